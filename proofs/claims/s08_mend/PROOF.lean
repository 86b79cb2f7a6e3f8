import PyProof.Rows.All
import Wide.All
import OpenK.AllK
import Wide.FinOn
import PyProof.EqAt
import PyProof.EqKinds
import PyProof.TupleCall
import KE.BitLaws
import Open.SpecLaws
import KE.OsHead
import KE.OsGo
import PySem.Challenge.RW_sealedrowsdesk_s08_mend
section
set_option Elab.async false
set_option linter.all false
set_option maxRecDepth 100000
/-! THE HAND LAYER, for ints, bools, texts, own classes, lists, tuples, dicts, comprehensions, walks over dicts, enumerate, zip, reversed, texts, calls, loops. Paste it whole ahead of your own text; what your proof does not reach may be deleted. -/
namespace L2
open PySem PySem.Spec PyProof.Rows

/-- a key: an int or a str -/
abbrev Key := Sum Int Str
def keyIs : Key → Value → Bool
  | .inl k, v => Value.isInt k v
  | .inr x, v => Value.isStrOf x v
def keyH (w : World) : Key → Int
  | .inl k => hashInt k
  | .inr x => hashStr w x
theorem keyIs_shape : ∀ {k : Key} {v : Value}, keyIs k v = true → (∃ i t, k = Sum.inl i ∧ v = Value.int i t) ∨ (∃ x t, k = Sum.inr x ∧ v = Value.str x t)
  | .inl i, v, h => by
    obtain ⟨t, e⟩ := Value.isInt_shape (k := i) (v := v) h
    exact .inl ⟨i, t, rfl, e⟩
  | .inr x, v, h => by
    obtain ⟨t, e⟩ := Value.isStrOf_shape (x := x) (v := v) h
    exact .inr ⟨x, t, rfl, e⟩
theorem key_ll (a b : Int) : decide ((Sum.inl a : Key) = Sum.inl b) = (a == b) := by
  by_cases e : a = b
  · subst e; simp
  · have h : ¬ (Sum.inl a : Key) = Sum.inl b := fun q => e (Sum.inl.inj q)
    rw [decide_eq_false h]
    exact (beq_eq_false_iff_ne.mpr e).symm
theorem key_rr (a b : Str) : decide ((Sum.inr a : Key) = Sum.inr b) = decide (a = b) := by
  by_cases e : a = b
  · subst e; simp
  · have h : ¬ (Sum.inr a : Key) = Sum.inr b := fun q => e (Sum.inr.inj q)
    rw [decide_eq_false h, decide_eq_false e]
theorem key_lr (a : Int) (b : Str) : decide ((Sum.inl a : Key) = Sum.inr b) = false := decide_eq_false (fun q => nomatch q)
theorem key_rl (a : Str) (b : Int) : decide ((Sum.inr a : Key) = Sum.inl b) = false := decide_eq_false (fun q => nomatch q)

def mixKind (prog : Program) (w : World) : PySem.KeyKind prog w Key where
  is := keyIs
  hash := keyH w
  inj := fun v a b ha hb => by
    rcases keyIs_shape ha with ⟨i, t, rfl, rfl⟩ | ⟨x, t, rfl, rfl⟩
    · rcases keyIs_shape hb with ⟨j, u, rfl, e⟩ | ⟨y, u, rfl, e⟩
      · injection e with e1 _; rw [e1]
      · exact nomatch e
    · rcases keyIs_shape hb with ⟨j, u, rfl, e⟩ | ⟨y, u, rfl, e⟩
      · exact nomatch e
      · injection e with e1 _; rw [e1]
  byValue := fun k v h => by
    rcases keyIs_shape h with ⟨i, t, rfl, rfl⟩ | ⟨x, t, rfl, rfl⟩ <;> rfl
  pyHash := fun hv h => by
    rcases keyIs_shape hv with ⟨i, t, rfl, rfl⟩ | ⟨x, t, rfl, rfl⟩
    · exact wpAny_pyHash_int h
    · exact wpAny_pyHash_str h
  eqBool := fun hu hv h => by
    rcases keyIs_shape hu with ⟨i, t, rfl, rfl⟩ | ⟨x, t, rfl, rfl⟩
    · rcases keyIs_shape hv with ⟨j, u, rfl, rfl⟩ | ⟨y, u, rfl, rfl⟩
      · rw [key_ll] at h; exact wpAny_eqBool_int h
      · rw [key_lr] at h; exact SeqAt.EqAt.int_str i t y u _ _ _ _ h
    · rcases keyIs_shape hv with ⟨j, u, rfl, rfl⟩ | ⟨y, u, rfl, rfl⟩
      · rw [key_rl] at h; exact SeqAt.EqAt.str_int x t j u _ _ _ _ h
      · rw [key_rr] at h; exact wpAny_eqBool_str h
  «strs» := fun k x t v h => by
    rcases keyIs_shape h with ⟨i, u, rfl, e⟩ | ⟨y, u, rfl, e⟩
    · exact nomatch e
    · injection e with e1 _
      subst e1
      cases v <;> rfl

end L2

namespace L2
open PySem PySem.Spec PyProof.Rows

/-- a value, without the heap -/
inductive V where
  | non | bl (b : Bool) | int (i : Int) | str (x : Str) | byt (b : Array UInt8) | flt (b : UInt64) | ref (a : Addr) | ty (n : String)
  deriving DecidableEq

def RelV : V → Value → Prop
  | .non, u => u = Value.none
  | .bl b, u => u = Value.bool b
  | .int i, u => ∃ t, u = Value.int i t
  | .str x, u => ∃ t, u = Value.str x t
  | .byt b, u => ∃ t, u = Value.bytes b t
  | .flt b, u => ∃ t, u = Value.float b t
  | .ref a, u => u = Value.ref a
  | .ty n, u => u = Value.type n

abbrev Vals : List V → List Value → Prop := Paired RelV
theorem Vals.length {xs : List V} {us : List Value} (r : Vals xs us) : xs.length = us.length := Paired.length r
theorem Vals.get : ∀ {xs : List V} {us : List Value} {i : Nat} {x : V}, Vals xs us → xs[i]? = some x → ∃ u, us[i]? = some u ∧ RelV x u
  | _, _, _, _, .nil, e => by simp at e
  | _, _, 0, _, .cons r _, e => by simp at e; subst e; exact ⟨_, rfl, r⟩
  | _, _, i + 1, x, .cons _ t, e => by
    obtain ⟨u, h1, h2⟩ := Vals.get (i := i) (x := x) t (by simpa using e)
    exact ⟨u, by simpa using h1, h2⟩
theorem Vals.set {x : V} {u : Value} (r : RelV x u) : ∀ {xs : List V} {us : List Value} (i : Nat), Vals xs us → Vals (xs.set i x) (us.set i u)
  | _, _, _, .nil => .nil
  | _, _, 0, .cons _ t => .cons r t
  | _, _, i + 1, .cons q t => .cons q (Vals.set r i t)
theorem Vals.append : ∀ {xs ys : List V} {us ws : List Value}, Vals xs us → Vals ys ws → Vals (xs ++ ys) (us ++ ws)
  | _, _, _, _, .nil, s => s
  | _, _, _, _, .cons r t, s => .cons r (Vals.append t s)
theorem Vals.take : ∀ {xs : List V} {us : List Value} (n : Nat), Vals xs us → Vals (xs.take n) (us.take n)
  | _, _, 0, _ => .nil
  | _, _, _ + 1, .nil => .nil
  | _, _, n + 1, .cons r t => .cons r (Vals.take n t)
theorem Vals.drop : ∀ {xs : List V} {us : List Value} (n : Nat), Vals xs us → Vals (xs.drop n) (us.drop n)
  | _, _, 0, r => r
  | _, _, _ + 1, .nil => .nil
  | _, _, n + 1, .cons _ t => Vals.drop n t
theorem Vals.none_of : ∀ {xs : List V} {us : List Value} {i : Nat}, Vals xs us → xs[i]? = none → us[i]? = none := fun {xs us i} r e => by
  have h1 := r.length
  have h2 : xs.length ≤ i := List.getElem?_eq_none_iff.mp e
  exact List.getElem?_eq_none_iff.mpr (by omega)

def RelO : Option V → Option Value → Prop
  | some v, some u => RelV v u
  | none, none => True
  | _, _ => False
def KV {κ : Type} : List (κ × V) → List (κ × Value) → Prop := Paired fun (p : κ × V) (q : κ × Value) => p.1 = q.1 ∧ RelV p.2 q.2

/-- a key of a dict (00_mix): an int or a text -/
def kV : Key → V
  | .inl i => .int i
  | .inr x => .str x

/-- what stands at a tracked address -/
inductive HO where
  /-- a list -/
  | lst (xs : List V)
  /-- a tuple (never changes) -/
  | tup (xs : List V)
  /-- a dict whose keys are ints and texts; one whose keys are tuples of ints and texts (the empty one is both) -/
  | dK (kvs : List (Key × V)) | dT (kvs : List (List Key × V))
  /-- a set of ints: its members, its size -/
  | set (S : Int → Bool) (n : Nat)
  /-- an instance of the class at C, its dict at dx, its attributes -/
  | ins (C dx : Addr) (fs : List (Str × V))
  /-- the dict of the instance at x -/
  | own (x : Addr)
  /-- the dict of an exception -/
  | xd (fs : List (Str × V))
  /-- a bound method, f of x -/
  | met (f x : Addr)
  /-- a range object lo, lo + 1, .. below hi -/
  | rng (lo hi : Int)
  /-- a thing that is known to the object (the script; a dict while a loop walks it): read, never written while it is so -/
  | frz (o : Obj) (u : HO)
  /-- a code object's table -/
  | tbl (ps : Array Value)
  /-- any other thing, by what is true of its one object (a def of one's own: SetO a S n := HO.ext fun h => ..) -/
  | ext (φ : Heap → Prop)

abbrev Hp := Addr → Option HO
def upd (H : Hp) (a : Addr) (o : HO) : Hp := fun b => if b = a then some o else H b
theorem upd_same {H : Hp} {a : Addr} {o : HO} : upd H a o a = some o := by unfold upd; rw [if_pos rfl]
theorem upd_ne {H : Hp} {a b : Addr} {o : HO} (h : b ≠ a) : upd H a o b = H b := by unfold upd; rw [if_neg h]
/-- two objects of different content stand apart -/
theorem ne_of {H : Hp} {a b : Addr} {o u : HO} (h : H a = some o) (h' : H b = some u) (d : o ≠ u) : a ≠ b := by
  intro e; subst e; rw [h] at h'; exact d (Option.some.inj h')
theorem ne_of_none {H : Hp} {a b : Addr} {o : HO} (h : H a = some o) (h' : H b = none) : a ≠ b := by
  intro e; subst e; rw [h] at h'; cases h'

section
variable (P : Program) (w : World)
def ObjOk (H : Hp) (h : Heap) (a : Addr) : HO → Prop
  | .lst xs => xs.length ≤ sizeLine ∧ ∃ (its : List Value) (n : Nat), Vals xs its ∧ h.get? a = some { cls := .type "list", data := .seq its.toArray n }
  | .tup xs => xs.length ≤ sizeLine ∧ ∃ its : List Value, Vals xs its ∧ IsTup h a its.toArray
  | .dK kvs => kvs.length ≤ sizeLine ∧ (a == sysModules) = false ∧ ∃ vs, KV kvs vs ∧ h.DictOf (mixKind P w) a vs
  | .dT kvs => kvs.length ≤ sizeLine ∧ (a == sysModules) = false ∧ ∃ xs : List (List Key × Addr × Value),
      Paired (fun (p : List Key × V) (q : List Key × Addr × Value) => p.1 = q.1 ∧ H q.2.1 = some (.tup (p.1.map kV)) ∧ RelV p.2 q.2.2) kvs xs ∧
      ∃ o es ep, h.get? a = some o ∧ o.ExactDict ∧ o.data = .dict es ep ∧ es.toList = xs.map (entryOfKey (tupleKind (mixKind P w))) ∧ (xs.map (·.1)).Nodup
  | .set S n => h.SetOf (intKind P w) a S n
  | .ins C dx fs => H dx = some (.own a) ∧ fs.length ≤ 1000 ∧ dx ≠ a ∧ h.get? a = some (PySem.W.instObj C dx) ∧
      ∃ mA, h.Ns1 dx mA ∧ (∀ f, RelO (fs.lookup f) (mA f)) ∧ PySem.Within mA (fs.map (·.1))
  | .own _ => ∃ o, h.get? a = some o
  | .xd fs => ∃ mA, h.Ns1 a mA ∧ ∀ f, RelO (fs.lookup f) (mA f)
  | .rng lo hi => ∃ t u v, h.get? a = some { cls := .type "range", data := .fields #[.int lo t, .int hi u, .int 1 v] }
  | .frz o u => h.get? a = some o ∧ ObjOk H h a u
  | .tbl ps => h.get? a = some { cls := .none, data := .fields ps }
  | .met f x => h.get? a = some (PySem.W.methodObj (.ref f) (.ref x))
  | .ext φ => φ h ∧ (∃ o, h.get? a = some o) ∧ ∀ h1 h2 : Heap, φ h1 → (∀ o, h1.get? a = some o → h2.get? a = some o) → φ h2
/-- the abstract heap is held -/
def HOk (H : Hp) (h : Heap) : Prop := ∀ a o, H a = some o → ObjOk P w H h a o
end

section
variable {P : Program} {w : World} {H H' : Hp} {h h' : Heap} {a : Addr} {o : HO}
theorem ObjOk.lt (x : ObjOk P w H h a o) : a < h.objs.size := by
  cases o with
  | lst xs => obtain ⟨_, _, _, _, e⟩ := x; exact Heap.lt_size e
  | tup xs => obtain ⟨_, _, _, p⟩ := x; exact p.lt
  | dK kvs => obtain ⟨_, _, _, _, o, _, _, e, _⟩ := x; exact Heap.lt_size e
  | dT kvs => obtain ⟨_, _, _, _, o, _, _, e, _⟩ := x; exact Heap.lt_size e
  | set S n => obtain ⟨o, _, _, _, e, _⟩ := x; exact Heap.lt_size e
  | ins C dx fs => obtain ⟨_, _, _, e, _⟩ := x; exact Heap.lt_size e
  | own y => obtain ⟨_, e⟩ := x; exact Heap.lt_size e
  | xd fs => obtain ⟨_, ⟨_, _, _, e, _⟩, _⟩ := x; exact Heap.lt_size e
  | rng lo hi => obtain ⟨_, _, _, e⟩ := x; exact Heap.lt_size e
  | frz ob u => obtain ⟨e, _⟩ := x; exact Heap.lt_size e
  | tbl ps => exact Heap.lt_size (show h.get? a = some _ from x)
  | met f y => exact Heap.lt_size (show h.get? a = some _ from x)
  | ext φ => obtain ⟨_, ⟨_, e⟩, _⟩ := x; exact Heap.lt_size e
theorem Paired.mapP {α β : Type} {F G : α → β → Prop} : ∀ {l₁ : List α} {l₂ : List β}, Paired F l₁ l₂ → (∀ a b, F a b → G a b) → Paired G l₁ l₂
  | _, _, .nil, _ => .nil
  | _, _, .cons r t, f => .cons (f _ _ r) (Paired.mapP t f)
/-- what an object's description leans on: its own object, its own dict, the tuples -/
theorem ObjOk.stay (x : ObjOk P w H h a o) (k : ∀ b u, (b = a ∨ H b = some (.own a)) → h.get? b = some u → h'.get? b = some u)
    (ho : ∀ b, H b = some (.own a) → H' b = some (.own a)) (ht : ∀ b xs, H b = some (.tup xs) → H' b = some (.tup xs)) : ObjOk P w H' h' a o := by
  induction o with
  | lst xs => obtain ⟨z, its, n, r, e⟩ := x; exact ⟨z, its, n, r, k _ _ (.inl rfl) e⟩
  | tup xs => obtain ⟨z, its, r, ob, e, c⟩ := x; exact ⟨z, its, r, ob, k _ _ (.inl rfl) e, c⟩
  | dK kvs => obtain ⟨z, y, vs, r, ob, es, ep, e, c⟩ := x; exact ⟨z, y, vs, r, ob, es, ep, k _ _ (.inl rfl) e, c⟩
  | dT kvs =>
    obtain ⟨z, y, xs, r, ob, es, ep, e, c⟩ := x
    exact ⟨z, y, xs, Paired.mapP r fun p q z => ⟨z.1, ht _ _ z.2.1, z.2.2⟩, ob, es, ep, k _ _ (.inl rfl) e, c⟩
  | set S n => obtain ⟨ob, es, ep, t, e, c⟩ := x; exact ⟨ob, es, ep, t, k _ _ (.inl rfl) e, c⟩
  | ins C dx fs =>
    obtain ⟨d, z, ne, e, mA, ⟨od, es, ep, e2, c⟩, r⟩ := x
    exact ⟨ho _ d, z, ne, k _ _ (.inl rfl) e, mA, ⟨od, es, ep, k _ _ (.inr d) e2, c⟩, r⟩
  | own y => obtain ⟨ob, e⟩ := x; exact ⟨ob, k _ _ (.inl rfl) e⟩
  | xd fs => obtain ⟨mA, ⟨od, es, ep, e, c⟩, r⟩ := x; exact ⟨mA, ⟨od, es, ep, k _ _ (.inl rfl) e, c⟩, r⟩
  | rng lo hi => obtain ⟨t, u, v, e⟩ := x; exact ⟨t, u, v, k _ _ (.inl rfl) e⟩
  | frz ob u ih => obtain ⟨e, q⟩ := x; exact ⟨k _ _ (.inl rfl) e, ih q⟩
  | tbl ps =>
    have e : h.get? a = some { cls := .none, data := .fields ps } := x
    show h'.get? a = some { cls := .none, data := .fields ps }
    exact k a _ (.inl rfl) e
  | met f y =>
    have e : h.get? a = some (PySem.W.methodObj (.ref f) (.ref y)) := x
    show h'.get? a = some (PySem.W.methodObj (.ref f) (.ref y))
    exact k a _ (.inl rfl) e
  | ext φ => obtain ⟨p, ⟨o, e⟩, st⟩ := x; exact ⟨st _ _ p fun o q => k _ _ (.inl rfl) q, ⟨o, k _ _ (.inl rfl) e⟩, st⟩
theorem HOk.lt (x : HOk P w H h) (e : H a = some o) : a < h.objs.size := (x a o e).lt
theorem HOk.fresh (x : HOk P w H h) (e : h.objs.size ≤ a) : H a = none := by
  cases q : H a with
  | none => rfl
  | some u => exact absurd (Nat.lt_of_lt_of_le (x.lt q) e) (Nat.lt_irrefl _)
/-- every object of the heap is kept -/
theorem HOk.kept (x : HOk P w H h) (k : ∀ b u, h.get? b = some u → h'.get? b = some u) : HOk P w H h' := fun a o e =>
  (x a o e).stay (fun b u _ q => k b u q) (fun _ q => q) fun _ _ q => q
/-- a new object is laid and tracked -/
theorem HOk.laid (x : HOk P w H h) (k : ∀ b u, h.get? b = some u → h'.get? b = some u) (hp : h.objs.size ≤ a) (new : ObjOk P w (upd H a o) h' a o) : HOk P w (upd H a o) h' := fun b u e => by
  have hn := x.fresh hp
  by_cases hb : b = a
  · subst hb; rw [upd_same] at e; cases e; exact new
  · rw [upd_ne hb] at e
    exact (x b u e).stay (fun c v _ q => k c v q) (fun c q => by rw [upd_ne (ne_of_none q hn)]; exact q) fun c xs q => by rw [upd_ne (ne_of_none q hn)]; exact q
end

/-- what may be read as u: it is u, or a known u -/
def Rd (H : Hp) (a : Addr) (u : HO) : Prop := H a = some u ∨ ∃ o, H a = some (.frz o u)
theorem Rd.of {H : Hp} {a : Addr} {u : HO} (h : H a = some u) : Rd H a u := .inl h
theorem Rd.ok {P : Program} {w : World} {H : Hp} {h : Heap} {a : Addr} {u : HO} (r : Rd H a u) (x : HOk P w H h) : ObjOk P w H h a u := by
  rcases r with r | ⟨o, r⟩
  · exact x a u r
  · obtain ⟨_, q⟩ := x a _ r
    exact q
/-- what may be written -/
def Mut : Option HO → Prop
  | some (.lst _) => True
  | some (.dK _) => True
  | some (.dT _) => True
  | some (.set _ _) => True
  | some (.ins _ _ _) => True
  | some (.ext _) => True
  | _ => False
section
variable {P : Program} {w : World} {H : Hp} {h h' : Heap} {x e : Addr} {o' : HO}
/-- the object at e is changed: x itself, or the dict of the instance x -/
theorem HOk.write (ok : HOk P w H h) (mu : Mut (H x)) (he : e = x ∨ H e = some (.own x)) (k : ∀ b u, b ≠ e → h.get? b = some u → h'.get? b = some u) (heo : ∃ u, h'.get? e = some u)
    (new : ObjOk P w (upd H x o') h' x o') : HOk P w (upd H x o') h' := fun b u q => by
  have nown : ∀ c y, H c = some (.own y) → c ≠ x := fun c y r z => by subst z; rw [r] at mu; exact mu
  have ntup : ∀ c xs, H c = some (.tup xs) → c ≠ x := fun c xs r z => by subst z; rw [r] at mu; exact mu
  by_cases hb : b = x
  · subst hb; rw [upd_same] at q; cases q; exact new
  · rw [upd_ne hb] at q
    by_cases hbe : b = e
    · have q' : H b = some (.own x) := by
        rcases he with z | z
        · exact absurd (hbe.trans z) hb
        · rw [hbe]; exact z
      rw [q] at q'; cases q'
      obtain ⟨v, hv⟩ := heo
      exact ⟨v, by rw [hbe]; exact hv⟩
    · refine (ok b u q).stay (fun c v hc r => k c v ?_ r) (fun c r => by rw [upd_ne (nown c b r)]; exact r) fun c xs r => by rw [upd_ne (ntup c xs r)]; exact r
      rcases hc with rfl | hc
      · exact hbe
      · rintro rfl
        rcases he with z | z
        · exact nown c b hc z
        · rw [hc] at z; cases z; exact hb rfl
end

/-! ### kept unless tracked; of the frames at fs (the callers') the slots may change (an exception that passes writes there); of the records at ex (iterators) nothing is said -/
structure Un (fs ex : List Addr) (H H' : Hp) (h h' : Heap) : Prop where
  keep : ∀ b o, h.get? b = some o → H b = none → b ∉ fs → b ∉ ex → h'.get? b = some o
  slot : ∀ b o, h.get? b = some o → H b = none → b ∈ fs → b ∉ ex → ∃ sl, h'.get? b = some { o with slots := sl }
  free : ∀ b o, h.get? b = some o → H b = none → b ∉ ex → H' b = none
  there : ∀ b o, h.get? b = some o → b ∉ ex → ∃ o', h'.get? b = some o'
  tups : ∀ b xs, H b = some (.tup xs) → H' b = some (.tup xs)
  frzs : ∀ b o u, H b = some (.frz o u) → H' b = some (.frz o u)
  tbls : ∀ b ps, H b = some (.tbl ps) → ∃ more, H' b = some (.tbl (ps ++ more))
section
variable {fs fs' ex ex' : List Addr} {H H1 H2 : Hp} {h h1 h2 h' : Heap} {a x e : Addr} {o : HO}
theorem Un.any (u : Un fs ex H H1 h h1) {b : Addr} {ob : Obj} (q : h.get? b = some ob) (n : H b = none) (hx : b ∉ ex) : ∃ sl, h1.get? b = some { ob with slots := sl } := by
  by_cases hb : b ∈ fs
  · exact u.slot b ob q n hb hx
  · exact ⟨ob.slots, u.keep b ob q n hb hx⟩
theorem Un.trans (a : Un fs ex H H1 h h1) (b : Un fs ex H1 H2 h1 h2) : Un fs ex H H2 h h2 where
  keep := fun c ob q n hc hx => b.keep c ob (a.keep c ob q n hc hx) (a.free c ob q n hx) hc hx
  slot := fun c ob q n hc hx => by
    obtain ⟨sl, e1⟩ := a.slot c ob q n hc hx
    obtain ⟨sl', e2⟩ := b.slot c _ e1 (a.free c ob q n hx) hc hx
    exact ⟨sl', e2⟩
  free := fun c ob q n hx => by
    obtain ⟨o', e1⟩ := a.there c ob q hx
    exact b.free c o' e1 (a.free c ob q n hx) hx
  there := fun c ob q hx => by
    obtain ⟨o', e1⟩ := a.there c ob q hx
    exact b.there c o' e1 hx
  tups := fun c xs q => b.tups c xs (a.tups c xs q)
  frzs := fun c ob xs q => b.frzs c ob xs (a.frzs c ob xs q)
  tbls := fun c ps q => by
    obtain ⟨m1, e1⟩ := a.tbls c ps q
    obtain ⟨m2, e2⟩ := b.tbls c _ e1
    exact ⟨m1 ++ m2, by rw [e2, Array.append_assoc]⟩
theorem Un.kept (k : ∀ b u, h.get? b = some u → h'.get? b = some u) : Un fs ex H H h h' :=
  ⟨fun b ob q _ _ _ => k b ob q, fun b ob q _ _ _ => ⟨ob.slots, k b ob q⟩, fun _ _ _ n _ => n, fun b ob q _ => ⟨ob, k b ob q⟩, fun _ _ q => q, fun _ _ _ q => q, fun _ ps q => ⟨#[], by rw [q]; simp⟩⟩
theorem Un.refl : Un fs ex H H h h := Un.kept fun _ _ q => q
theorem Un.laid (k : ∀ b u, h.get? b = some u → h'.get? b = some u) (hp : h.objs.size ≤ a) (hn : H a = none) : Un fs ex H (upd H a o) h h' where
  keep := fun b u q _ _ _ => k b u q
  slot := fun b u q _ _ _ => ⟨u.slots, k b u q⟩
  free := fun b u q n _ => by rw [upd_ne (Nat.ne_of_lt (Nat.lt_of_lt_of_le (Heap.lt_size q) hp))]; exact n
  there := fun b u q _ => ⟨u, k b u q⟩
  tups := fun b xs q => by rw [upd_ne (ne_of_none q hn)]; exact q
  frzs := fun b u xs q => by rw [upd_ne (ne_of_none q hn)]; exact q
  tbls := fun b ps q => ⟨#[], by rw [upd_ne (ne_of_none q hn), q]; simp⟩
theorem Un.write (mu : Mut (H x)) (he : e = x ∨ H e = some (.own x)) (k : ∀ b u, b ≠ e → h.get? b = some u → h'.get? b = some u) (heo : ∃ u, h'.get? e = some u) : Un fs ex H (upd H x o) h h' := by
  have hx : ∀ b, H b = none → b ≠ x := fun b n z => by subst z; rw [n] at mu; exact mu
  have hb : ∀ b, H b = none → b ≠ e := fun b n z => by
    subst z
    rcases he with r | r
    · exact hx b n r
    · rw [n] at r; cases r
  have hm : ∀ b u, H b = some u → ¬ Mut (some u) → b ≠ x := fun b u q nm z => by subst z; rw [q] at mu; exact nm mu
  refine ⟨fun b u q n _ _ => k b u (hb b n) q, fun b u q n _ _ => ⟨u.slots, k b u (hb b n) q⟩, fun b u q n _ => by rw [upd_ne (hx b n)]; exact n, fun b u q _ => ?_,
    fun b xs q => by rw [upd_ne (hm b _ q fun z => z)]; exact q, fun b u xs q => by rw [upd_ne (hm b _ q fun z => z)]; exact q, fun b ps q => ⟨#[], by rw [upd_ne (hm b _ q fun z => z), q]; simp⟩⟩
  by_cases hbe : b = e
  · subst hbe; exact heo
  · exact ⟨u, k b u hbe q⟩
theorem Un.mono (u : Un fs ex H H1 h h1) (hs : ∀ b ∈ fs, b ∈ fs') (hx : ∀ b ∈ ex, b ∈ ex') : Un fs' ex' H H1 h h1 :=
  ⟨fun b ob q n hb he => u.keep b ob q n (fun z => hb (hs b z)) fun z => he (hx b z), fun _ _ q n _ he => u.any q n fun z => he (hx _ z), fun b ob q n he => u.free b ob q n fun z => he (hx b z), fun b ob q he => u.there b ob q fun z => he (hx b z), u.tups, u.frzs, u.tbls⟩
end

/-! ### the heap without what is tracked -/
def trk (h : Heap) (H : Hp) : List Addr := (List.range h.objs.size).filter fun a => (H a).isSome
def hidT (h : Heap) (H : Hp) : Heap := PySem.W.hideAll h (trk h H)
theorem hidT_size (h : Heap) (H : Hp) : (hidT h H).objs.size = h.objs.size := PySem.W.hideAll_size _ _
theorem hidT_get {h : Heap} {H : Hp} {b : Addr} {o : Obj} (e : h.get? b = some o) (n : H b = none) : (hidT h H).get? b = some o :=
  PySem.W.hideAll_get _ e fun hm => by
    have q : (H b).isSome = true := (List.mem_filter.mp hm).2
    rw [n] at q; simp at q
theorem of_hidT {h : Heap} {H : Hp} {b : Addr} {o : Obj} (e : (hidT h H).get? b = some o) : h.get? b = some o ∧ H b = none := by
  have e' : h.get? b = some o := PySem.W.of_hideAll (trk h H) e
  refine ⟨e', ?_⟩
  cases q : H b with
  | none => rfl
  | some x =>
    have hm : b ∈ trk h H := List.mem_filter.mpr ⟨List.mem_range.mpr (Heap.lt_size e'), by simp [q]⟩
    have z : (hidT h H).get? b = none := PySem.W.hideAll_none (trk h H) hm
    rw [z] at e; cases e

/-! ### OpenK's ledger, filled with every new object but one -/
def allNews (g h : Heap) (L : Addr) : List (Addr × Obj) := (List.range h.objs.size).filterMap fun a => if a = L ∨ (g.get? a).isSome = true then none else (h.get? a).map fun o => (a, o)
def rest (g h : Heap) (L d : Addr) : List (Addr × Obj) := (allNews g h L).filter fun p => decide (p.1 ≠ d)
end L2

namespace L2
open PySem PySem.Spec PyProof.Rows

/-- the module's facts, over the base: the heap at the law's entry without what is tracked there -/
structure Mod (K : PySem.W.Frag) (mg : Str → Option Value) (base : Heap) : Prop where
  kin : K.In base
  glob : base.Ns mainGlobals mg
  blt : ∃ mb, base.Ns builtinsNs mb ∧ ∀ x : Str, x ≠ "__name__" → mb x = bootBuiltins x
  nolimit : base.NoLimit

/-- the context: a def's body (or a comprehension's block) running. base: fixed through the whole law; s₀, H₀: the entry; outer: the frames whose slots others may change (a def's callers); stack: all frames that run;
   ex: iterators that were made ahead of the entry and are walked here (a comprehension's); fn: the names whose cells were made at the entry (a def: all; a comprehension's block: its own); calm: not within an except suite; pn: pins that every state bears; xe: what is wanted of an exception that leaves the code -/
structure Cx where
  prog : Program
  w : World
  K : PySem.W.Frag
  mg : Str → Option Value
  base : Heap
  A : Around
  N : List Str
  s_0 : Shared
  H_0 : Hp
  env : Env
  outer : List Env
  stack : List Env
  ex : List Addr
  fn : Str → Bool
  calm : Bool
  pn : List (Addr × Obj)
  xe : Value → Shared → Prop
/-- the callers' frames -/
def frs (l : List Env) : List Addr := l.filterMap (·.frame)
abbrev Cx.fs (X : Cx) : List Addr := frs X.outer

def Vis (sc : Scope) (x : Str) : Prop := sc.names.lookup x = some .local ∨ sc.names.lookup x = some .cell ∨ sc.names.lookup x = some .free
def Loc (sc : Scope) (x : Str) : Prop := sc.names.lookup x = some .local ∨ sc.names.lookup x = some .cell
def Look (env : Env) (h : Heap) (m : Str → Option Value) (x : Str) (u : Value) : Prop :=
  (env.kindOf x = some .local ∧ m x = some u) ∨ ((env.kindOf x = some .cell ∨ env.kindOf x = some .free) ∧ ∃ c, env.cells.lookup x = some c ∧ h.IsCell c (some u))

structure Cx.Ok (X : Cx) : Prop where
  mod : Mod X.K X.mg X.base
  kind : X.env.scope.kind = .function
  glob : X.env.globals = mainGlobals
  blt : X.env.builtins = builtinsNs
  above : X.s_0.heap.objs.size ≤ X.env.locals
  inj : ∀ x y c, X.env.cells.lookup x = some c → X.env.cells.lookup y = some c → x = y
  has : ∀ x, (X.env.kindOf x = some .cell ∨ X.env.kindOf x = some .free) → ∃ c, X.env.cells.lookup x = some c
  cab : ∀ x c, X.fn x = true → X.env.cells.lookup x = some c → X.s_0.heap.objs.size ≤ c
  hd : X.calm = true → X.A.handled = none
  frames : X.A.frames = some X.stack
  stk : X.stack = X.outer ∨ (X.stack = X.env :: X.outer ∧ X.env.frame = some X.env.locals)
  exf : ∀ b ∈ X.ex, b ≠ X.env.locals ∧ ∀ x c, X.env.cells.lookup x = some c → c ≠ b
  bs : ∀ b o, X.base.get? b = some o → X.s_0.heap.get? b = some o ∧ X.H_0 b = none
  bsz : X.base.objs.size ≤ X.s_0.heap.objs.size
  noex : ∀ b o, X.base.get? b = some o → b ∉ X.ex
  exfs : ∀ b ∈ X.ex, b ∉ X.fs
  funs : X.s_0.heap.FunFrames X.base X.outer
  frf : ∀ b ∈ X.fs, X.H_0 b = none

structure Inv (X : Cx) (pins : List (Addr × Obj)) (σ : List (Option V)) (H : Hp) (s : Shared) : Prop where
  ok : X.Ok
  os : s.os = X.s_0.os
  bare : AllBare s.gens
  base : Un X.fs X.ex X.H_0 H X.s_0.heap s.heap
  loc : ∃ m, s.heap.Ns X.env.locals m ∧ ∀ (i : Nat) (x : Str) (v : V), X.N[i]? = some x → σ[i]? = some (some v) → Vis X.env.scope x → ∃ u, RelV v u ∧ Look X.env s.heap m x u
  cell : ∀ x c, X.env.cells.lookup x = some c → ∃ v, s.heap.IsCell c v
  free : H X.env.locals = none
  freeC : ∀ x c, X.env.cells.lookup x = some c → H c = none
  pin : ∀ p ∈ X.pn ++ pins, s.heap.get? p.1 = some p.2 ∧ H p.1 = none ∧ p.1 ≠ X.env.locals ∧ p.1 ∉ X.fs ∧ ∀ v, p.2.data ≠ .cell v
  hok : HOk X.prog X.w H s.heap
  len : σ.length = X.N.length

section
variable {X : Cx} {pins : List (Addr × Obj)} {σ : List (Option V)} {H H' : Hp} {s : Shared} {h' : Heap}

theorem Cx.Ok.nofr (ok : X.Ok) {b : Addr} {o : Obj} (e : X.base.get? b = some o) : b ∉ X.fs := fun hb => by
  have := (ok.funs.mem hb).1
  rw [e] at this; cases this
theorem Inv.bs (I : Inv X pins σ H s) : ∀ b o, X.base.get? b = some o → s.heap.get? b = some o ∧ H b = none := fun b o e =>
  ⟨I.base.keep b o (I.ok.bs b o e).1 (I.ok.bs b o e).2 (I.ok.nofr e) (I.ok.noex b o e), I.base.free b o (I.ok.bs b o e).1 (I.ok.bs b o e).2 (I.ok.noex b o e)⟩
theorem Inv.bk (I : Inv X pins σ H s) : ∀ b o, X.base.get? b = some o → s.heap.get? b = some o := fun b o e => (I.bs b o e).1
theorem Inv.mod (I : Inv X pins σ H s) : Mod X.K X.mg X.base := I.ok.mod
theorem Inv.kIn (I : Inv X pins σ H s) : X.K.In s.heap := I.ok.mod.kin.keeps I.bk
theorem Inv.nolimit (I : Inv X pins σ H s) : s.heap.NoLimit := I.ok.mod.nolimit.keeps I.bk
theorem Inv.lt (I : Inv X pins σ H s) : X.env.locals < s.heap.objs.size := let ⟨_, hn, _⟩ := I.loc; hn.lt
theorem Inv.sz (I : Inv X pins σ H s) : X.s_0.heap.objs.size ≤ s.heap.objs.size := Nat.le_trans I.ok.above (Nat.le_of_lt I.lt)
theorem Inv.nofs (I : Inv X pins σ H s) {a : Addr} (h : s.heap.objs.size ≤ a) : a ∉ X.fs := fun hb => by
  obtain ⟨_, o, ho, _⟩ := I.ok.funs.mem hb
  exact absurd (Nat.lt_of_lt_of_le (Heap.lt_size ho) (Nat.le_trans I.sz h)) (Nat.lt_irrefl _)
theorem Inv.cne (I : Inv X pins σ H s) : ∀ x c, X.env.cells.lookup x = some c → c ≠ X.env.locals := fun x c e z => by
  obtain ⟨v, o, ho, hd⟩ := I.cell x c e
  obtain ⟨m, ⟨o', es, ep, ho', hd', _⟩, _⟩ := I.loc
  rw [z, ho'] at ho; cases ho; rw [hd'] at hd; cases hd
theorem Inv.funs (I : Inv X pins σ H s) : s.heap.FunFrames X.base X.outer := by
  have all : ∀ (l : List Env), (∀ b ∈ frs l, b ∈ X.fs) → X.s_0.heap.FunFrames X.base l → s.heap.FunFrames X.base l := by
    intro l
    induction l with
    | nil => intro _ _; trivial
    | cons env r ih =>
      intro hs hl
      obtain ⟨hk, ⟨L, o, hf, hn, ho, hd⟩, hr⟩ := hl
      have hL : L ∈ X.fs := hs L (by unfold frs; rw [List.filterMap_cons, hf]; exact List.mem_cons_self)
      obtain ⟨sl, e⟩ := I.base.slot L o ho (I.ok.frf L hL) hL fun z => I.ok.exfs L z hL
      exact ⟨hk, ⟨L, _, hf, hn, e, hd⟩, ih (fun b hb => hs b (by unfold frs; rw [List.filterMap_cons, hf]; exact List.mem_cons_of_mem _ hb)) hr⟩
  exact all X.outer (fun _ hb => hb) I.ok.funs

/-- the frames that run, for a call -/
theorem Inv.stack (I : Inv X pins σ H s) : s.heap.FunFrames X.base X.stack := by
  rcases I.ok.stk with e | ⟨e, hf⟩
  · rw [e]; exact I.funs
  · rw [e]
    obtain ⟨m, hn, _⟩ := I.loc
    refine .cons (by rw [I.ok.kind]; decide) hf hn ?_ I.funs
    exact Heap.get?_none_of_le (Nat.le_trans I.ok.bsz I.ok.above)
theorem Inv.stkSub (I : Inv X pins σ H s) : ∀ b ∈ frs X.stack, b ∈ X.env.locals :: X.fs := fun b hb => by
  rcases I.ok.stk with e | ⟨e, hf⟩
  · rw [e] at hb; exact List.mem_cons_of_mem _ hb
  · rw [e] at hb
    unfold frs at hb
    rw [List.filterMap_cons, hf] at hb
    exact hb
theorem Inv.stkFree (I : Inv X pins σ H s) : ∀ b ∈ frs X.stack, H b = none := fun b hb => by
  rcases List.mem_cons.mp (I.stkSub b hb) with e | hb
  · rw [e]; exact I.free
  · obtain ⟨_, o, ho, _⟩ := I.ok.funs.mem hb
    exact I.base.free b o ho (I.ok.frf b hb) fun z => I.ok.exfs b z hb

/-- THE STEP: the untracked objects but the frame and the records at ch are kept (the callers' frames up to slots), the frame's map is kept, the new abstract heap is held -/
theorem Inv.step {g' : Array GenState} {t' : Nat} {d' : Drawn} {ch : List Addr} (I : Inv X pins σ H s)
    (hch : ∀ b ∈ ch, (b ∈ X.ex ∨ X.s_0.heap.objs.size ≤ b) ∧ b ≠ X.env.locals ∧ (∀ x c, X.env.cells.lookup x = some c → c ≠ b) ∧ ∀ p ∈ X.pn ++ pins, p.1 ≠ b)
    (keep : ∀ b o, b ≠ X.env.locals → b ∉ X.fs → b ∉ ch → s.heap.get? b = some o → H b = none → h'.get? b = some o)
    (slot : ∀ b o, b ≠ X.env.locals → b ∈ X.fs → b ∉ ch → s.heap.get? b = some o → H b = none → ∃ sl, h'.get? b = some { o with slots := sl }) (free : ∀ b o, b ∉ ch → s.heap.get? b = some o → H b = none → H' b = none)
    (there : ∀ b o, b ∉ ch → s.heap.get? b = some o → ∃ o', h'.get? b = some o')
    (tups : ∀ b xs, H b = some (.tup xs) → H' b = some (.tup xs)) (frzs : ∀ b o u, H b = some (.frz o u) → H' b = some (.frz o u)) (tbls : ∀ b ps, H b = some (.tbl ps) → ∃ more, H' b = some (.tbl (ps ++ more)))
    (ns : ∀ m, s.heap.Ns X.env.locals m → h'.Ns X.env.locals m) (hok : HOk X.prog X.w H' h') (hg : AllBare g') :
    Inv X pins σ H' { s with heap := h', gens := g', drawn := d', toks := t' } := by
  have neL : ∀ b o, X.s_0.heap.get? b = some o → b ≠ X.env.locals := fun b o e => Nat.ne_of_lt (Nat.lt_of_lt_of_le (Heap.lt_size e) I.ok.above)
  have neC : ∀ b o, X.s_0.heap.get? b = some o → b ∉ X.ex → b ∉ ch := fun b o e hx hb => by
    rcases (hch b hb).1 with z | z
    · exact hx z
    · exact absurd (Nat.lt_of_lt_of_le (Heap.lt_size e) z) (Nat.lt_irrefl _)
  have cellK : ∀ x c, X.env.cells.lookup x = some c → ∀ v, s.heap.IsCell c v → h'.IsCell c v := fun x c e v ⟨o, ho, hd⟩ => by
    have nch : c ∉ ch := fun z => (hch c z).2.2.1 x c e rfl
    by_cases hc : c ∈ X.fs
    · obtain ⟨sl, q⟩ := slot c o (I.cne x c e) hc nch ho (I.freeC x c e)
      exact ⟨_, q, hd⟩
    · exact ⟨o, keep c o (I.cne x c e) hc nch ho (I.freeC x c e), hd⟩
  refine ⟨I.ok, I.os, hg, ⟨fun b o e n hb hx => ?_, fun b o e n hb hx => ?_, fun b o e n hx => ?_, fun b o e hx => ?_, fun b xs e => tups b xs (I.base.tups b xs e), fun b o xs e => frzs b o xs (I.base.frzs b o xs e), fun b ps e => ?_⟩, ?_, fun x c e => ?_, ?_, fun x c e => ?_, fun p hp => ?_, hok, I.len⟩
  · exact keep b o (neL b o e) hb (neC b o e hx) (I.base.keep b o e n hb hx) (I.base.free b o e n hx)
  · obtain ⟨sl, e1⟩ := I.base.slot b o e n hb hx
    obtain ⟨sl', e2⟩ := slot b _ (neL b o e) hb (neC b o e hx) e1 (I.base.free b o e n hx)
    exact ⟨sl', e2⟩
  · obtain ⟨o', e1⟩ := I.base.there b o e hx
    exact free b o' (neC b o e hx) e1 (I.base.free b o e n hx)
  · obtain ⟨o', e1⟩ := I.base.there b o e hx
    exact there b o' (neC b o e hx) e1
  · obtain ⟨m1, e1⟩ := I.base.tbls b ps e
    obtain ⟨m2, e2⟩ := tbls b _ e1
    exact ⟨m1 ++ m2, by rw [e2, Array.append_assoc]⟩
  · obtain ⟨m, hn, hl⟩ := I.loc
    refine ⟨m, ns m hn, fun i x v e1 e2 e3 => ?_⟩
    obtain ⟨u, r, l⟩ := hl i x v e1 e2 e3
    refine ⟨u, r, ?_⟩
    rcases l with l | ⟨k, c, e, z⟩
    · exact .inl l
    · exact .inr ⟨k, c, e, cellK x c e _ z⟩
  · obtain ⟨v, z⟩ := I.cell x c e
    exact ⟨v, cellK x c e v z⟩
  · obtain ⟨m, ⟨o, _, _, ho, _⟩, _⟩ := I.loc
    exact free _ o (fun z => (hch _ z).2.1 rfl) ho I.free
  · obtain ⟨v, o, ho, hd⟩ := I.cell x c e
    exact free c o (fun z => (hch c z).2.2.1 x c e rfl) ho (I.freeC x c e)
  · obtain ⟨e, n, ne, nf, d⟩ := I.pin p hp
    have nch : p.1 ∉ ch := fun z => (hch p.1 z).2.2.2 p hp rfl
    exact ⟨keep p.1 p.2 ne nf nch e n, free p.1 p.2 nch e n, ne, nf, d⟩
/-- .. where the frame's own object is kept too -/
theorem Inv.un {t' : Nat} (I : Inv X pins σ H s) (u : Un X.fs [] H H' s.heap h') (hok : HOk X.prog X.w H' h') : Inv X pins σ H' { s with heap := h', toks := t' } := by
  obtain ⟨m, ⟨o, es, ep, ho, r⟩, _⟩ := id I.loc
  obtain ⟨sl, hL⟩ := u.any ho I.free (by simp)
  exact I.step (g' := s.gens) (d' := s.drawn) (ch := []) (fun _ z => nomatch z) (fun b o _ hb _ e n => u.keep b o e n hb (by simp)) (fun b o _ hb _ e n => u.slot b o e n hb (by simp)) (fun b o _ e n => u.free b o e n (by simp)) (fun b o _ e => u.there b o e (by simp)) u.tups u.frzs u.tbls (fun m' hm => by
    obtain ⟨o', es', ep', ho', r'⟩ := hm
    rw [ho] at ho'; cases ho'
    exact ⟨_, es', ep', hL, r'⟩) hok I.bare
/-- behind a call (or a comprehension's block): the slots of this frame may have changed too, the records at ch may have turned -/
theorem Inv.call {g' : Array GenState} {t' : Nat} {d' : Drawn} {ch : List Addr} (I : Inv X pins σ H s) (u : Un (frs X.stack) ch H H' s.heap h') (hok : HOk X.prog X.w H' h') (hg : AllBare g')
    (hch : ∀ b ∈ ch, (b ∈ X.ex ∨ X.s_0.heap.objs.size ≤ b) ∧ b ≠ X.env.locals ∧ (∀ x c, X.env.cells.lookup x = some c → c ≠ b) ∧ ∀ p ∈ X.pn ++ pins, p.1 ≠ b) :
    Inv X pins σ H' { s with heap := h', gens := g', drawn := d', toks := t' } := by
  obtain ⟨m, ⟨o, es, ep, ho, r⟩, _⟩ := id I.loc
  obtain ⟨sl, hL⟩ := u.any ho I.free fun z => (hch _ z).2.1 rfl
  exact I.step (ch := ch) hch (fun b o hL hb hc e n => u.keep b o e n (fun z => (List.mem_cons.mp (I.stkSub b z)).elim hL hb) hc) (fun b o _ _ hc e n => u.any e n hc) (fun b o hc e n => u.free b o e n hc) (fun b o hc e => u.there b o e hc) u.tups u.frzs u.tbls (fun m' hm => by
    obtain ⟨o', es', ep', ho', r'⟩ := hm
    rw [ho] at ho'; cases ho'
    exact ⟨_, es', ep', hL, r'⟩) hok hg
/-- an untracked record of ours (an iterator) has turned -/
theorem Inv.turned {t' : Nat} {it : Addr} (I : Inv X pins σ H s) (k : ∀ b o, b ≠ it → s.heap.get? b = some o → h'.get? b = some o) (hn : H it = none) (hL : it ≠ X.env.locals)
    (h1 : it ∈ X.ex ∨ X.s_0.heap.objs.size ≤ it) (h2 : ∀ x c, X.env.cells.lookup x = some c → c ≠ it) (h3 : ∀ p ∈ X.pn ++ pins, p.1 ≠ it) : Inv X pins σ H { s with heap := h', toks := t' } := by
  have nit : ∀ b u, H b = some u → b ≠ it := fun b u e z => by rw [z, hn] at e; cases e
  refine I.step (g' := s.gens) (d' := s.drawn) (ch := [it]) (fun b hb => ?_) (fun b o _ _ hc e _ => k b o (fun z => hc (by simp [z])) e) (fun b o _ _ hc e _ => ⟨o.slots, k b o (fun z => hc (by simp [z])) e⟩) (fun _ _ _ _ n => n)
    (fun b o hc e => ⟨o, k b o (fun z => hc (by simp [z])) e⟩) (fun _ _ e => e) (fun _ _ _ e => e) (fun b ps e => ⟨#[], by rw [e]; simp⟩) (fun m hm => ?_) (fun b u e => ?_) I.bare
  · have e : b = it := by simpa using hb
    subst e
    exact ⟨h1, hL, h2, h3⟩
  · obtain ⟨o, es, ep, ho, r⟩ := hm
    exact ⟨o, es, ep, k _ o (Ne.symm hL) ho, r⟩
  · refine (I.hok b u e).stay (fun c v hc q => k c v ?_ q) (fun _ q => q) fun _ _ q => q
    rcases hc with z | z
    · rw [z]; exact nit b u e
    · exact nit c _ z
theorem Inv.tok (I : Inv X pins σ H s) (t : Nat) : Inv X pins σ H { s with toks := t } := I.un (h' := s.heap) (t' := t) Un.refl I.hok
/-- all objects kept -/
theorem Inv.kept {t' : Nat} (I : Inv X pins σ H s) (k : ∀ b u, s.heap.get? b = some u → h'.get? b = some u) : Inv X pins σ H { s with heap := h', toks := t' } := I.un (Un.kept k) (I.hok.kept k)
/-- a new object laid and tracked -/
theorem Inv.laid {a : Addr} {o : HO} {t' : Nat} (I : Inv X pins σ H s) (k : ∀ b u, s.heap.get? b = some u → h'.get? b = some u) (hp : s.heap.objs.size ≤ a) (new : ObjOk X.prog X.w (upd H a o) h' a o) :
    Inv X pins σ (upd H a o) { s with heap := h', toks := t' } := I.un (Un.laid k hp (I.hok.fresh hp)) (I.hok.laid k hp new)
/-- an object written -/
theorem Inv.write {x e : Addr} {o : HO} {t' : Nat} (I : Inv X pins σ H s) (mu : Mut (H x)) (he : e = x ∨ H e = some (.own x)) (k : ∀ b u, b ≠ e → s.heap.get? b = some u → h'.get? b = some u) (heo : ∃ u, h'.get? e = some u)
    (new : ObjOk X.prog X.w (upd H x o) h' x o) : Inv X pins σ (upd H x o) { s with heap := h', toks := t' } := I.un (Un.write mu he k heo) (I.hok.write mu he k heo new)
/-- forgetting slots, pins -/
theorem Inv.weak {σ' : List (Option V)} (I : Inv X pins σ H s) (hl : σ'.length = σ.length) (w : ∀ (i : Nat) v, σ'[i]? = some (some v) → σ[i]? = some (some v)) : Inv X pins σ' H s :=
  ⟨I.ok, I.os, I.bare, I.base, let ⟨m, hn, hl'⟩ := I.loc; ⟨m, hn, fun i x v e1 e2 e3 => hl' i x v e1 (w i v e2) e3⟩, I.cell, I.free, I.freeC, I.pin, I.hok, hl.trans I.len⟩
theorem Inv.pins_of {pins' : List (Addr × Obj)} (I : Inv X pins σ H s) (h : ∀ p ∈ pins', s.heap.get? p.1 = some p.2 ∧ H p.1 = none ∧ p.1 ≠ X.env.locals ∧ p.1 ∉ X.fs ∧ ∀ v, p.2.data ≠ .cell v) : Inv X pins' σ H s :=
  ⟨I.ok, I.os, I.bare, I.base, I.loc, I.cell, I.free, I.freeC, fun p hp => (List.mem_append.mp hp).elim (fun z => I.pin p (List.mem_append_left _ z)) (h p), I.hok, I.len⟩

theorem nodup_ix {N : List Str} (hN : N.Nodup) {i j : Nat} {x : Str} (a : N[i]? = some x) (b : N[j]? = some x) : i = j := by
  obtain ⟨h1, e1⟩ := List.getElem?_eq_some_iff.mp a
  obtain ⟨h2, e2⟩ := List.getElem?_eq_some_iff.mp b
  exact (List.getElem_inj hN).mp (e1.trans e2.symm)

/-- a name is stored; what changed -/
theorem store_ok2 {M : Model} {A : Around} {E : Value → Shared → Prop} {i : Nat} {x : Str} {v : V} {u : Value} {Q : Unit → Shared → Prop} (I : Inv X pins σ H s) (hN : X.N.Nodup) (hi : X.N[i]? = some x) (hx : Loc X.env.scope x) (r : RelV v u)
    (h : ∀ s', Inv X pins (σ.set i (some v)) H s' → (∃ a, Heap.SameBut a s.heap s'.heap ∧ (a = X.env.locals ∨ X.env.cells.lookup x = some a)) → Q () s') (hf : X.fn x = true ∨ X.env.scope.names.lookup x = some .local := by first | exact .inl rfl | exact .inr rfl | assumption) : wpAny M A (storeName X.env x u) Q E s := by
  obtain ⟨m, hn, hl⟩ := id I.loc
  have hcls : (X.env.scope.kind == .class || (X.env.scope.kind == .module && X.env.locals != X.env.globals)) = false := by rw [I.ok.kind]; rfl
  have hiσ : i < σ.length := by rw [I.len]; exact (List.getElem?_eq_some_iff.mp hi).1
  have cne := I.cne
  have tracked : ∀ {a : Addr} {h' : Heap}, (∃ o, s.heap.get? a = some o ∧ H a = none) → Heap.SameBut a s.heap h' → HOk X.prog X.w H h' := fun {a h'} ha hs b ob e => by
    obtain ⟨_, _, hfree⟩ := ha
    refine (I.hok b ob e).stay (fun c w' hc q => (hs.2 c ?_).trans q) (fun _ q => q) fun _ _ q => q
    rintro rfl
    rcases hc with rfl | hc
    · rw [hfree] at e; cases e
    · rw [hfree] at hc; cases hc
  rcases hx with hk | hk
  · refine wpAny_storeName_local hk hn (fun h' hn' hs => ?_) hcls
    obtain ⟨oL, _, _, hoL, _⟩ := id hn
    refine h _ ⟨I.ok, I.os, I.bare, ⟨fun b o e n hb hx => ?_, fun b o e n hb hx => ?_, I.base.free, fun b o e hx => ?_, I.base.tups, I.base.frzs, I.base.tbls⟩, ⟨_, hn', fun j y v' e1 e2 e3 => ?_⟩, fun y c e => ?_, I.free, I.freeC, fun p hp => ?_, tracked ⟨oL, hoL, I.free⟩ hs, by simpa using I.len⟩ ⟨_, hs, .inl rfl⟩
    · exact (hs.2 b (Nat.ne_of_lt (Nat.lt_of_lt_of_le (Heap.lt_size e) I.ok.above))).trans (I.base.keep b o e n hb hx)
    · obtain ⟨sl, e1⟩ := I.base.slot b o e n hb hx
      exact ⟨sl, (hs.2 b (Nat.ne_of_lt (Nat.lt_of_lt_of_le (Heap.lt_size e) I.ok.above))).trans e1⟩
    · obtain ⟨o', e1⟩ := I.base.there b o e hx
      exact ⟨o', (hs.2 b (Nat.ne_of_lt (Nat.lt_of_lt_of_le (Heap.lt_size e) I.ok.above))).trans e1⟩
    · by_cases hj : j = i
      · subst hj
        rw [hi] at e1; cases e1
        rw [List.getElem?_set_self hiσ] at e2
        cases e2
        exact ⟨u, r, .inl ⟨hk, by simp⟩⟩
      · rw [List.getElem?_set_ne (Ne.symm hj)] at e2
        obtain ⟨u', r', q⟩ := hl j y v' e1 e2 e3
        refine ⟨u', r', ?_⟩
        rcases q with ⟨k, e⟩ | ⟨k, c, e, z⟩
        · refine .inl ⟨k, ?_⟩
          have : y ≠ x := fun e => hj (nodup_ix hN e1 (e ▸ hi))
          simp [this, e]
        · exact .inr ⟨k, c, e, z.sameBut hs (cne y c e)⟩
    · obtain ⟨w', z⟩ := I.cell y c e
      exact ⟨w', z.sameBut hs (cne y c e)⟩
    · obtain ⟨e, n, ne, nf, d⟩ := I.pin p hp
      exact ⟨(hs.2 p.1 ne).trans e, n, ne, nf, d⟩
  · have hfn : X.fn x = true := by
      rcases hf with z | z
      · exact z
      · rw [z] at hk; cases hk
    obtain ⟨c, hc⟩ := I.ok.has x (.inl hk)
    obtain ⟨w', z⟩ := I.cell x c hc
    refine wpAny_storeName_cell I.ok.kind hk hc z (fun h' hc' hs => ?_)
    obtain ⟨oc, hoc, hocd⟩ := id z
    refine h { s with heap := h' } ⟨I.ok, I.os, I.bare, ⟨fun b o e n hb hx => ?_, fun b o e n hb hx => ?_, I.base.free, fun b o e hx => ?_, I.base.tups, I.base.frzs, I.base.tbls⟩, ⟨m, hn.sameBut hs (Ne.symm (cne x c hc)), fun j y v' e1 e2 e3 => ?_⟩, fun y c' e => ?_, I.free, I.freeC, fun p hp => ?_, tracked ⟨oc, hoc, I.freeC x c hc⟩ hs, by simpa using I.len⟩ ⟨c, hs, .inr hc⟩
    · exact (hs.2 b (Nat.ne_of_lt (Nat.lt_of_lt_of_le (Heap.lt_size e) (I.ok.cab x c hfn hc)))).trans (I.base.keep b o e n hb hx)
    · obtain ⟨sl, e1⟩ := I.base.slot b o e n hb hx
      exact ⟨sl, (hs.2 b (Nat.ne_of_lt (Nat.lt_of_lt_of_le (Heap.lt_size e) (I.ok.cab x c hfn hc)))).trans e1⟩
    · obtain ⟨o', e1⟩ := I.base.there b o e hx
      exact ⟨o', (hs.2 b (Nat.ne_of_lt (Nat.lt_of_lt_of_le (Heap.lt_size e) (I.ok.cab x c hfn hc)))).trans e1⟩
    · by_cases hj : j = i
      · subst hj
        rw [hi] at e1; cases e1
        rw [List.getElem?_set_self hiσ] at e2
        cases e2
        exact ⟨u, r, .inr ⟨.inl hk, c, hc, hc'⟩⟩
      · rw [List.getElem?_set_ne (Ne.symm hj)] at e2
        obtain ⟨u', r', q⟩ := hl j y v' e1 e2 e3
        refine ⟨u', r', ?_⟩
        rcases q with q | ⟨k, c', e, z'⟩
        · exact .inl q
        · refine .inr ⟨k, c', e, z'.sameBut hs ?_⟩
          rintro rfl
          exact hj (nodup_ix hN e1 (I.ok.inj _ _ _ e hc ▸ hi))
    · by_cases hcc : c' = c
      · subst hcc; exact ⟨_, hc'⟩
      · obtain ⟨w2, z2⟩ := I.cell y c' e
        exact ⟨w2, z2.sameBut hs hcc⟩
    · obtain ⟨e, n, ne, nf, d⟩ := I.pin p hp
      refine ⟨(hs.2 p.1 ?_).trans e, n, ne, nf, d⟩
      intro q
      rw [q, hoc] at e
      have q' : oc = p.2 := Option.some.inj e
      exact d w' (by rw [← q']; exact hocd)
theorem store_ok {M : Model} {A : Around} {E : Value → Shared → Prop} {i : Nat} {x : Str} {v : V} {u : Value} {Q : Unit → Shared → Prop} (I : Inv X pins σ H s) (hN : X.N.Nodup) (hi : X.N[i]? = some x) (hx : Loc X.env.scope x) (r : RelV v u)
    (h : ∀ s', Inv X pins (σ.set i (some v)) H s' → Q () s') (hf : X.fn x = true ∨ X.env.scope.names.lookup x = some .local := by first | exact .inl rfl | exact .inr rfl | assumption) : wpAny M A (storeName X.env x u) Q E s :=
  store_ok2 I hN hi hx r (fun s' I' _ => h s' I') hf
/-- behind a call or a block, the state as it is -/
theorem Inv.call' {s' : Shared} {ch : List Addr} (I : Inv X pins σ H s) (ho : s'.os = s.os) (u : Un (frs X.stack) ch H H' s.heap s'.heap) (hok : HOk X.prog X.w H' s'.heap) (hg : AllBare s'.gens)
    (hch : ∀ b ∈ ch, (b ∈ X.ex ∨ X.s_0.heap.objs.size ≤ b) ∧ b ≠ X.env.locals ∧ (∀ x c, X.env.cells.lookup x = some c → c ≠ b) ∧ ∀ p ∈ X.pn ++ pins, p.1 ≠ b) : Inv X pins σ H' s' := by
  obtain ⟨h', g', d', t', o'⟩ := s'
  have e : o' = s.os := ho
  subst e
  exact I.call (g' := g') (t' := t') (d' := d') u hok hg hch
end

/-! ### the judgements -/
/-- an exception: its class, its own dict's address (where it has one), the abstract heap behind it -/
abbrev XK := Value → Option Addr → Hp → Prop
abbrev St := List (Option V)
abbrev VK := V → Hp → Prop
/-- an expression's reading; a test's; an argument list's -/
abbrev TE := St → Hp → VK → Prop
abbrev TT := St → Hp → (Bool → Hp → Prop) → Prop
abbrev TA := St → Hp → (List V → Hp → Prop) → Prop
/-- what is wanted behind a statement -/
structure Ends where
  nx : St → Hp → Prop
  rt : VK
  bk : St → Hp → Prop := fun _ _ => False
  ct : St → Hp → Prop := fun _ _ => False
abbrev TS := Ends → St → Hp → Prop

def EP (X : Cx) (pins : List (Addr × Obj)) (σ : St) (Q : VK) (u : Value) (s' : Shared) : Prop := ∃ v H', Inv X pins σ H' s' ∧ RelV v u ∧ Q v H'
def TP (X : Cx) (pins : List (Addr × Obj)) (σ : St) (Q : Bool → Hp → Prop) (b : Bool) (s' : Shared) : Prop := ∃ H', Inv X pins σ H' s' ∧ Q b H'
def AP (X : Cx) (pins : List (Addr × Obj)) (σ : St) (Q : List V → Hp → Prop) (us : List Value) (s' : Shared) : Prop := ∃ vs H', Inv X pins σ H' s' ∧ Vals vs us ∧ Q vs H'
def SP (X : Cx) (pins : List (Addr × Obj)) (D : Ends) (f : Flow) (s' : Shared) : Prop :=
  match f with
  | .next => ∃ σ' H', Inv X pins σ' H' s' ∧ D.nx σ' H'
  | .brk => ∃ σ' H', Inv X pins σ' H' s' ∧ D.bk σ' H'
  | .cont => ∃ σ' H', Inv X pins σ' H' s' ∧ D.ct σ' H'
  | .ret u => ∃ v σ' H', Inv X pins σ' H' s' ∧ RelV v u ∧ D.rt v H'

def PE (X : Cx) (e : Expr) (t : TE) : Prop :=
  ∀ (pins : List (Addr × Obj)) (s : Shared) (σ : St) (H : Hp) (Q : VK), Inv X pins σ H s → t σ H Q → wpAny (model X.prog X.w) X.A (eval e X.env) (EP X pins σ Q) X.xe s
def PT (X : Cx) (e : Expr) (t : TT) : Prop :=
  ∀ (pins : List (Addr × Obj)) (s : Shared) (σ : St) (H : Hp) (Q : Bool → Hp → Prop), Inv X pins σ H s → t σ H Q → wpAny (model X.prog X.w) X.A (isTrue e X.env (eval e X.env)) (TP X pins σ Q) X.xe s
/-- a test whatever its 'whole' is (and, or) -/
def PW (X : Cx) (e : Expr) (t : TT) : Prop :=
  ∀ (whole : Sem Value) (pins : List (Addr × Obj)) (s : Shared) (σ : St) (H : Hp) (Q : Bool → Hp → Prop), Inv X pins σ H s → t σ H Q → wpAny (model X.prog X.w) X.A (isTrue e X.env whole) (TP X pins σ Q) X.xe s
theorem PW.pt {X : Cx} {e : Expr} {t : TT} (h : PW X e t) : PT X e t := h _
/-- an argument list (no star), from the left -/
def PA (X : Cx) (es : List Expr) (t : TA) : Prop :=
  ∀ (pos : Pos) (pins : List (Addr × Obj)) (s : Shared) (σ : St) (H : Hp) (Q : List V → Hp → Prop), Inv X pins σ H s → t σ H Q → wpAny (model X.prog X.w) X.A (spliced (backTo pos (starEach es X.env))) (AP X pins σ Q) X.xe s
def PS (X : Cx) (st : Stmt) (t : TS) : Prop :=
  ∀ (pins : List (Addr × Obj)) (s : Shared) (σ : St) (H : Hp) (D : Ends), Inv X pins σ H s → t D σ H → wpAny (model X.prog X.w) X.A (exec st X.env) (SP X pins D) X.xe s
def PSs (X : Cx) (st : List Stmt) (t : TS) : Prop :=
  ∀ (pins : List (Addr × Obj)) (s : Shared) (σ : St) (H : Hp) (D : Ends), Inv X pins σ H s → t D σ H → wpAny (model X.prog X.w) X.A (execs st X.env) (SP X pins D) X.xe s
/-- weaken the end -/
theorem thn {α : Type} {t : Sem α} {Q Q' : α → Shared → Prop} {M : Model} {A : Around} {E : Value → Shared → Prop} {s : Shared} (h : wpAny M A t Q E s) (hQ : ∀ a s, Q a s → Q' a s) : wpAny M A t Q' E s := wpAny_mono h hQ fun _ _ x => x
end L2

namespace L2
open PySem PySem.Spec PyProof.Rows
section
variable {X : Cx}

/-! ### names and constants -/
def tVar (i : Nat) : TE := fun σ H Q => ∃ v, σ[i]? = some (some v) ∧ Q v H
def tC (v : V) : TE := fun _ H Q => Q v H
theorem pe_var {i : Nat} {x : Str} {pos : Pos} (hN : X.N[i]? = some x) (hv : Vis X.env.scope x) (hd : (x == ("__debug__" : Str)) = false := by decide) (hcd : (x == ("__classdict__" : Str)) = false := by decide) : PE X (.Name x pos) (tVar i) := by
  intro pins s σ H Q I h
  obtain ⟨v, e, h⟩ := h
  obtain ⟨m, hn, hl⟩ := I.loc
  obtain ⟨u, r, l⟩ := hl i x v hN e hv
  have fin : EP X pins σ Q u s := ⟨v, H, I, r, h⟩
  rcases l with ⟨hk, hm⟩ | ⟨hk, c, hc, hcell⟩
  · exact wpAny_Name (wpAny_loadName_local I.ok.kind hk hn hm fin) hd
  · rcases hk with hk | hk
    · exact wpAny_Name (wpAny_loadName_cell I.ok.kind hk hc hcell fin) hd
    · exact wpAny_Name (wpAny_loadName_free I.ok.kind hk hc hcell fin hcd) hd
theorem pe_int {i j pos} : PE X (.Constant (.int i) j pos) (tC (.int i)) := fun _ _ _ H _ I h => wpAny_Constant_int ⟨.int i, H, I.tok _, ⟨_, rfl⟩, h⟩
/-- a global name of the def -/
def Gl (X : Cx) (x : Str) : Prop := X.env.kindOf x = some .globalImplicit
theorem ld_glob {E : Value → Shared → Prop} {pins : List (Addr × Obj)} {s : Shared} {σ : St} {H : Hp} {x : Str} {u : Value} {pos : Pos} {Q : Value → Shared → Prop} (I : Inv X pins σ H s) (hg : Gl X x) (hm : X.mg x = some u) (h : Q u s)
    (hd : (x == ("__debug__" : Str)) = false := by decide) : wpAny (model X.prog X.w) X.A (eval (.Name x pos) X.env) Q E s :=
  Calls.Name_function_global I.ok.kind hg (Calls.loadGlobal_global (by rw [I.ok.glob]; exact I.mod.glob.keeps I.bk) hm h) hd
theorem ld_blt {E : Value → Shared → Prop} {pins : List (Addr × Obj)} {s : Shared} {σ : St} {H : Hp} {x : Str} {u : Value} {pos : Pos} {Q : Value → Shared → Prop} (I : Inv X pins σ H s) (hg : Gl X x) (hm : X.mg x = none) (hv : bootBuiltins x = some u) (h : Q u s)
    (hn : x ≠ "__name__" := by decide) (hd : (x == ("__debug__" : Str)) = false := by decide) : wpAny (model X.prog X.w) X.A (eval (.Name x pos) X.env) Q E s := by
  obtain ⟨mb, h1, h2⟩ := I.mod.blt
  exact Calls.Name_function_global I.ok.kind hg (Calls.loadGlobal_builtin (by rw [I.ok.glob]; exact I.mod.glob.keeps I.bk) hm (by rw [I.ok.blt]; exact h1.keeps I.bk) ((h2 x hn).trans hv) h) hd
/-- a module's constant, a class, a function, as a value -/
theorem pe_glob {x : Str} {v : V} {u : Value} {pos : Pos} (hg : Gl X x) (hm : X.mg x = some u) (r : RelV v u) (hd : (x == ("__debug__" : Str)) = false := by decide) : PE X (.Name x pos) (tC v) :=
  fun _ _ _ H _ I h => ld_glob I hg hm ⟨v, H, I, r, h⟩ hd
/-! ### arithmetic -/
variable {a b : Expr} {ta tb : TE} {pos : Pos}
/-! ### comparisons -/
/-- a comparison as a value, as a test -/
def tB (t : TE) : TT := fun σ H Q => t σ H fun x H1 => ∃ c, x = .bl c ∧ Q c H1
/-- an expression whose value is a bool, as a test -/
theorem pt_val {e : Expr} {t : TE} (h : PE X e t) (he : ∀ whole, isTrue e X.env whole = (do let v ← whole; standAt e.pos; holding [v] (truthy v)) := by intro _; rfl) : PT X e (tB t) := by
  intro pins s σ H Q I hw
  refine isTrue_plain (thn (h pins s σ H _ I hw) fun v s1 ⟨x, H1, I1, r1, q1⟩ => ?_) (he _)
  obtain ⟨d, rfl, q⟩ := q1
  cases r1
  exact wpAny_truthy_bool ⟨H1, I1, q⟩

/-! ### and, or, not -/
variable {tA tB' : TT} {rest : List Expr}
def tAnd (t u : TT) : TT := fun σ H Q => t σ H fun c H1 => if c = true then u σ H1 Q else Q false H1
def tOr (t u : TT) : TT := fun σ H Q => t σ H fun c H1 => if c = true then Q true H1 else u σ H1 Q
def tNot (t : TT) : TT := fun σ H Q => t σ H fun c H1 => Q (!c) H1
theorem pw_and1 (ha : PT X a tA) : PW X (.BoolOp .And [a] pos) tA := by
  intro wh pins s σ H Q I h
  refine isTrue_and (thn (ha pins s σ H Q I h) fun c s1 e => ?_)
  cases c with
  | true => exact isTrue_and_nil e
  | false => exact e
theorem pw_or1 (ha : PT X a tA) : PW X (.BoolOp .Or [a] pos) tA := by
  intro wh pins s σ H Q I h
  refine isTrue_or (thn (ha pins s σ H Q I h) fun c s1 e => ?_)
  cases c with
  | false => exact isTrue_or_nil e
  | true => exact e
theorem pw_and (ha : PT X a tA) (hb : PW X (.BoolOp .And (b :: rest) pos) tB') : PW X (.BoolOp .And (a :: b :: rest) pos) (tAnd tA tB') := by
  intro wh pins s σ H Q I h
  refine isTrue_and (thn (ha pins s σ H _ I h) fun c s1 ⟨H1, I1, q1⟩ => ?_)
  cases c with
  | true => exact hb wh pins s1 σ H1 Q I1 q1
  | false => exact ⟨H1, I1, q1⟩
theorem pw_or (ha : PT X a tA) (hb : PW X (.BoolOp .Or (b :: rest) pos) tB') : PW X (.BoolOp .Or (a :: b :: rest) pos) (tOr tA tB') := by
  intro wh pins s σ H Q I h
  refine isTrue_or (thn (ha pins s σ H _ I h) fun c s1 ⟨H1, I1, q1⟩ => ?_)
  cases c with
  | true => exact ⟨H1, I1, q1⟩
  | false => exact hb wh pins s1 σ H1 Q I1 q1
theorem pt_not (ha : PT X a tA) : PT X (.UnaryOp .Not a pos) (tNot tA) := by
  intro pins s σ H Q I h
  exact isTrue_not (ha pins s σ H (fun c H1 => Q (!c) H1) I h)
/-- .. as values (bools) -/
def tAndV (ta tb : TE) : TE := fun σ H Q => ta σ H fun x H1 => ∃ c, x = .bl c ∧ if c = true then tb σ H1 Q else Q (.bl false) H1
theorem pe_one {op} {t : TE} (h : PE X a t) : PE X (.BoolOp op [a] pos) t := fun pins s σ H Q I hw => BoolOp_one (h pins s σ H Q I hw)
theorem pe_and (ha : PE X a ta) (hb : PE X (.BoolOp .And (b :: rest) pos) tb) : PE X (.BoolOp .And (a :: b :: rest) pos) (tAndV ta tb) := by
  intro pins s σ H Q I h
  refine BoolOp_and (thn (ha pins s σ H _ I h) fun v s1 ⟨x, H1, I1, r1, q1⟩ => ?_)
  obtain ⟨c, rfl, q1⟩ := q1
  cases r1
  refine wpAny_truthy_bool ?_
  cases c with
  | true => exact hb pins s1 σ H1 Q I1 q1
  | false => exact ⟨.bl false, H1, I1, rfl, q1⟩
/-- a if t else b -/
def tIf (t : TT) (ta tb : TE) : TE := fun σ H Q => t σ H fun c H1 => if c = true then ta σ H1 Q else tb σ H1 Q
theorem pe_ifExp {c : Expr} (hc : PT X c tA) (ha : PE X a ta) (hb : PE X b tb) : PE X (.IfExp c a b pos) (tIf tA ta tb) := by
  intro pins s σ H Q I h
  refine wpAny_IfExp (thn (hc pins s σ H _ I h) fun d s1 ⟨H1, I1, q1⟩ => ?_)
  cases d with
  | true => exact ha pins s1 σ H1 Q I1 q1
  | false => exact hb pins s1 σ H1 Q I1 q1
end
end L2

namespace L2
open PySem PySem.Spec PyProof.Rows

/-! ### a list, a tuple that is read: tracked, frozen, or an object of the module -/
def SqL (K : PySem.W.Frag) (H : Hp) (a : Addr) (xs : List V) : Prop :=
  Rd H a (.lst xs) ∨
    ∃ (o : Obj) (its : Array Value) (n : Nat), K.lookup a = some o ∧ o.cls = .type "list" ∧ o.dict = none ∧ o.data = .seq its n ∧ its.size ≤ sizeLine ∧ Vals xs its.toList
def SqT (K : PySem.W.Frag) (H : Hp) (a : Addr) (xs : List V) : Prop :=
  Rd H a (.tup xs) ∨
    ∃ (o : Obj) (its : Array Value) (n : Nat), K.lookup a = some o ∧ o.cls = .type "tuple" ∧ o.data = .seq its n ∧ its.size ≤ sizeLine ∧ Vals xs its.toList
def absV : Value → Option V
  | .none => some .non
  | .bool b => some (.bl b)
  | .int i _ => some (.int i)
  | .str x _ => some (.str x)
  | .bytes b _ => some (.byt b)
  | .float b _ => some (.flt b)
  | .ref a => some (.ref a)
  | .type n => some (.ty n)
  | _ => none
theorem RelV.abs {x : V} {u : Value} (r : RelV x u) : absV u = some x := by
  cases x with
  | non => cases r; rfl
  | bl _ => cases r; rfl
  | int _ => obtain ⟨t, rfl⟩ := r; rfl
  | str _ => obtain ⟨t, rfl⟩ := r; rfl
  | byt _ => obtain ⟨t, rfl⟩ := r; rfl
  | flt _ => obtain ⟨t, rfl⟩ := r; rfl
  | ref _ => cases r; rfl
  | ty _ => cases r; rfl
theorem RelV.inj {x y : V} {u : Value} (r : RelV x u) (q : RelV y u) : x = y := Option.some.inj (r.abs.symm.trans q.abs)
theorem Vals.inj : ∀ {xs ys : List V} {us : List Value}, Vals xs us → Vals ys us → xs = ys
  | _, _, _, .nil, .nil => rfl
  | _, _, _, .cons r t, .cons r' t' => by rw [r.inj r', Vals.inj t t']
section
variable {X : Cx} {pins : List (Addr × Obj)} {σ : St} {H : Hp} {s : Shared} {a : Addr} {xs ys : List V}
theorem SqL.of {K : PySem.W.Frag} (h : H a = some (.lst xs)) : SqL K H a xs := .inl (.inl h)
theorem SqT.of {K : PySem.W.Frag} (h : H a = some (.tup xs)) : SqT K H a xs := .inl (.inl h)
theorem Inv.list (I : Inv X pins σ H s) (h : SqL X.K H a xs) : ∃ its : List Value, Vals xs its ∧ PlainL s.heap a its.toArray ∧ xs.length ≤ sizeLine := by
  rcases h with h | ⟨o, its, n, hk, hc, hd, hs, hz, r⟩
  · obtain ⟨z, its, n, r, e⟩ := h.ok I.hok
    exact ⟨its, r, ⟨_, n, e, rfl, rfl, rfl⟩, z⟩
  · refine ⟨its.toList, r, ⟨o, n, I.kIn a o hk, hc, hd, by simpa using hs⟩, ?_⟩
    have e := r.length
    simp only [Array.length_toList] at e
    omega
theorem Inv.tuple (I : Inv X pins σ H s) (h : SqT X.K H a xs) : ∃ its : List Value, Vals xs its ∧ IsTup s.heap a its.toArray ∧ xs.length ≤ sizeLine := by
  rcases h with h | ⟨o, its, n, hk, hc, hs, hz, r⟩
  · obtain ⟨z, its, r, p⟩ := h.ok I.hok
    exact ⟨its, r, p, z⟩
  · refine ⟨its.toList, r, ⟨o, I.kIn a o hk, hc, n, by simpa using hs⟩, ?_⟩
    have e := r.length
    simp only [Array.length_toList] at e
    omega
theorem Inv.list_inj (I : Inv X pins σ H s) (h : SqL X.K H a xs) (h' : SqL X.K H a ys) : xs = ys := by
  obtain ⟨its, r, ⟨o, n, e, _, _, d⟩, _⟩ := I.list h
  obtain ⟨its', r', ⟨o', n', e', _, _, d'⟩, _⟩ := I.list h'
  rw [e] at e'; cases e'
  rw [d] at d'
  injection d' with d1 _
  have : its = its' := by simpa using congrArg Array.toList d1
  subst this
  exact r.inj r'
end

/-! ### another wish about exceptions -/
abbrev Cx.wish (X : Cx) (E : Value → Shared → Prop) : Cx := { X with xe := E }
/-- no exception leaves -/
abbrev Cx.nox (X : Cx) : Cx := X.wish fun _ _ => False
theorem Cx.Ok.wish {X : Cx} (ok : X.Ok) (E : Value → Shared → Prop) : (X.wish E).Ok :=
  ⟨ok.mod, ok.kind, ok.glob, ok.blt, ok.above, ok.inj, ok.has, ok.cab, ok.hd, ok.frames, ok.stk, ok.exf, ok.bs, ok.bsz, ok.noex, ok.exfs, ok.funs, ok.frf⟩
theorem Cx.Ok.unwish {X : Cx} {E : Value → Shared → Prop} (ok : (X.wish E).Ok) : X.Ok :=
  ⟨ok.mod, ok.kind, ok.glob, ok.blt, ok.above, ok.inj, ok.has, ok.cab, ok.hd, ok.frames, ok.stk, ok.exf, ok.bs, ok.bsz, ok.noex, ok.exfs, ok.funs, ok.frf⟩
section
variable {X : Cx} {pins : List (Addr × Obj)} {σ : St} {H : Hp} {s : Shared} {E : Value → Shared → Prop}
theorem Inv.wish (I : Inv X pins σ H s) (E : Value → Shared → Prop) : Inv (X.wish E) pins σ H s := ⟨I.ok.wish E, I.os, I.bare, I.base, I.loc, I.cell, I.free, I.freeC, I.pin, I.hok, I.len⟩
theorem Inv.unwish (I : Inv (X.wish E) pins σ H s) : Inv X pins σ H s := ⟨I.ok.unwish, I.os, I.bare, I.base, I.loc, I.cell, I.free, I.freeC, I.pin, I.hok, I.len⟩
theorem SP.unwish {D : Ends} {f : Flow} {s' : Shared} (h : SP (X.wish E) pins D f s') : SP X pins D f s' := by
  cases f with
  | next => obtain ⟨σ', H', I, q⟩ := h; exact ⟨σ', H', I.unwish, q⟩
  | brk => obtain ⟨σ', H', I, q⟩ := h; exact ⟨σ', H', I.unwish, q⟩
  | cont => obtain ⟨σ', H', I, q⟩ := h; exact ⟨σ', H', I.unwish, q⟩
  | ret u => obtain ⟨v, σ', H', I, r, q⟩ := h; exact ⟨v, σ', H', I.unwish, r, q⟩
theorem PE.nox {e : Expr} {t : TE} (h : PE X.nox e t) : PE X e t := fun pins s σ H Q I hw =>
  wpAny_mono (h pins s σ H Q (I.wish _) hw) (fun _ _ ⟨v, H', I', r, q⟩ => ⟨v, H', I'.unwish, r, q⟩) fun _ _ z => False.elim z
theorem PT.nox {e : Expr} {t : TT} (h : PT X.nox e t) : PT X e t := fun pins s σ H Q I hw =>
  wpAny_mono (h pins s σ H Q (I.wish _) hw) (fun _ _ ⟨H', I', q⟩ => ⟨H', I'.unwish, q⟩) fun _ _ z => False.elim z
theorem PSs.nox {st : List Stmt} {t : TS} (h : PSs X.nox st t) : PSs X st t := fun pins s σ H D I hw =>
  wpAny_mono (h pins s σ H D (I.wish _) hw) (fun _ _ q => q.unwish) fun _ _ z => False.elim z
end

/-! ### blocks and small statements -/
section
variable {X : Cx} {st : Stmt} {rest : List Stmt} {t u : TS} {e : Expr} {te : TE} {pos : Pos}
def tNext : TS := fun D σ H => D.nx σ H
def tSeq (t u : TS) : TS := fun D σ H => t { D with nx := u D } σ H
theorem pss_nil : PSs X [] tNext := fun _ _ σ H _ I h => wpAny_execs_nil ⟨σ, H, I, h⟩
theorem pss_cons (h1 : PS X st t) (h2 : PSs X rest u) : PSs X (st :: rest) (tSeq t u) := by
  intro pins s σ H D I h
  refine wpAny_execs_cons (thn (h1 pins s σ H { D with nx := u D } I h) fun f s1 q => ?_)
  cases f with
  | next =>
    obtain ⟨σ', H', I', q⟩ := q
    exact h2 pins s1 σ' H' D I' q
  | ret v => exact q
  | brk => exact q
  | cont => exact q
theorem pss_one (h1 : PS X st t) : PSs X [st] t := by
  intro pins s σ H D I h
  refine wpAny_execs_cons (thn (h1 pins s σ H D I h) fun f s1 q => ?_)
  cases f with
  | next => exact wpAny_execs_nil q
  | ret v => exact q
  | brk => exact q
  | cont => exact q
/-- in a def's body nothing is shown -/
theorem Inv.quiet {pins : List (Addr × Obj)} {σ : St} {H : Hp} {s : Shared} (I : Inv X pins σ H s) : interactive X.env = false := by simp [interactive, I.ok.kind]
/-- an expression whose value is dropped -/
def tDrop (te : TE) : TS := fun D σ H => te σ H fun _ H1 => D.nx σ H1
theorem ps_expr (he : PE X e te) (hs : swapsWith e none pos.line X.env = pure false := by rfl) : PS X (.Expr e pos) (tDrop te) := by
  intro pins s σ H D I h
  exact wpAny_Expr_any (thn (he pins s σ H _ I h) fun v s1 ⟨x, H1, I1, r1, q1⟩ => ⟨σ, H1, I1, q1⟩) I.quiet hs
def tRet (te : TE) : TS := fun D σ H => te σ H D.rt
theorem ps_ret (he : PE X e te) : PS X (.Return (some e) pos) (tRet te) := by
  intro pins s σ H D I h
  exact wpAny_Return_some (thn (he pins s σ H _ I h) fun v s1 ⟨x, H1, I1, r1, q1⟩ => ⟨x, σ, H1, I1, r1, q1⟩)
def tIfS (c : TT) (t u : TS) : TS := fun D σ H => c σ H fun b H1 => if b = true then t D σ H1 else u D σ H1
theorem ps_if {c : Expr} {a b : List Stmt} {tc : TT} (hc : PT X c tc) (ha : PSs X a t) (hb : PSs X b u) : PS X (.If c a b pos) (tIfS tc t u) := by
  intro pins s σ H D I h
  refine wpAny_If (thn (hc pins s σ H _ I h) fun d s1 ⟨H1, I1, q1⟩ => ?_)
  cases d with
  | true => exact ha pins s1 σ H1 D I1 q1
  | false => exact hb pins s1 σ H1 D I1 q1
end

/-! ### targets -/
abbrev TG := V → St → Hp → (St → Hp → Prop) → Prop
abbrev TGs := List V → St → Hp → (St → Hp → Prop) → Prop
def PG (X : Cx) (target : Expr) (t : TG) : Prop :=
  ∀ (pins : List (Addr × Obj)) (s : Shared) (σ : St) (H : Hp) (v : V) (u : Value) (Q : St → Hp → Prop), Inv X pins σ H s → RelV v u → t v σ H Q →
    wpAny (model X.prog X.w) X.A (assign target X.env u) (fun _ s' => ∃ σ' H', Inv X pins σ' H' s' ∧ Q σ' H') X.xe s
/-- several targets, one after another -/
def PGs (X : Cx) (ts : List Expr) (t : TGs) : Prop :=
  ∀ (pins : List (Addr × Obj)) (s : Shared) (σ : St) (H : Hp) (vs : List V) (us : List Value) (Q : St → Hp → Prop), Inv X pins σ H s → Vals vs us → t vs σ H Q →
    wpAny (model X.prog X.w) X.A (assignInOrder ((assignEach ts X.env).map (·.2)) us) (fun _ s' => ∃ σ' H', Inv X pins σ' H' s' ∧ Q σ' H') X.xe s
/-- o[i] = v, by values -/
abbrev TSet := V → V → V → Hp → (Hp → Prop) → Prop
def PSet (X : Cx) (t : TSet) : Prop :=
  ∀ (pins : List (Addr × Obj)) (s : Shared) (σ : St) (H : Hp) (o i v : V) (ov iv u : Value) (Q : Hp → Prop), Inv X pins σ H s → RelV o ov → RelV i iv → RelV v u → t o i v H Q →
    wpAny (model X.prog X.w) X.A (setItem ov iv u) (fun _ s' => ∃ H', Inv X pins σ H' s' ∧ Q H') X.xe s
section
variable {X : Cx} {pos : Pos}
def gName (i : Nat) : TG := fun v σ H Q => Q (σ.set i (some v)) H
theorem pg_name {i : Nat} {x : Str} (hN : X.N.Nodup) (hi : X.N[i]? = some x) (hx : Loc X.env.scope x) (hf : X.fn x = true ∨ X.env.scope.names.lookup x = some .local := by first | exact .inl rfl | exact .inr rfl | assumption) : PG X (.Name x pos) (gName i) := by
  intro pins s σ H v u Q I r h
  exact wpAny_assign_Name (store_ok I hN hi hx r (fun s' I' => ⟨_, H, I', h⟩) hf)
def gNil : TGs := fun vs σ H Q => vs = [] ∧ Q σ H
def gCons (t : TG) (u : TGs) : TGs := fun vs σ H Q => ∃ v r, vs = v :: r ∧ t v σ H fun σ' H' => u r σ' H' Q
theorem pgs_nil : PGs X [] gNil := by
  intro pins s σ H vs us Q I r h
  obtain ⟨e, h⟩ := h
  subst e
  cases r
  exact assignInOrder_nil ⟨σ, H, I, h⟩
theorem pgs_cons {e : Expr} {es : List Expr} {t : TG} {u : TGs} (h1 : PG X e t) (h2 : PGs X es u)
    (hs : (assignEach (e :: es) X.env).map (·.2) = assign e X.env :: (assignEach es X.env).map (·.2) := by rfl) : PGs X (e :: es) (gCons t u) := by
  intro pins s σ H vs us Q I r h
  obtain ⟨v, vr, e1, h⟩ := h
  subst e1
  cases r with
  | cons r rr =>
    rw [hs]
    refine assignInOrder_cons (thn (h1 pins s σ H _ _ _ I r h) fun _ s1 ⟨σ1, H1, I1, q1⟩ => ?_)
    exact h2 pins s1 σ1 H1 _ _ Q I1 rr q1
/-- (a, b, ..) = a tuple of that length -/
def gTup (K : PySem.W.Frag) (n : Nat) (t : TGs) : TG := fun v σ H Q => ∃ a xs, v = .ref a ∧ SqT K H a xs ∧ xs.length = n ∧ t xs σ H Q
theorem pg_tup {es : List Expr} {k : Nat} {t : TGs} {n : Nat} (hc : X.calm = true) (h : PGs X es t)
    (hn : (assignEach es X.env).length = n := by rfl) (hst : (assignEach es X.env).findIdx? (·.1) = none := by rfl) : PG X (.Tuple es k pos) (gTup X.K n t) := by
  intro pins s σ H v u Q I r hw
  obtain ⟨a, xs, e1, hq, hl, hw⟩ := hw
  subst e1
  cases r
  obtain ⟨its, rv, ht, hz⟩ := I.tuple hq
  refine assign_Tuple_tuple (I.ok.hd hc) ht (by simp [hn, ← hl, rv.length]) hst fun h' hx => ?_
  have I1 : Inv X pins σ H { s with heap := h' } := I.kept (t' := s.toks) fun b o e => hx b o (Nat.ne_of_lt (Heap.lt_size e)) e
  exact h pins _ σ H xs _ Q I1 (by simpa using rv) hw
/-- o[i] = .. -/
def gSub (to ti : TE) (t : TSet) : TG := fun v σ H Q => to σ H fun o H1 => ti σ H1 fun i H2 => t o i v H2 fun H3 => Q σ H3
theorem pg_sub {o i : Expr} {to ti : TE} {t : TSet} (ho : PE X o to) (hi : PE X i ti) (hs : PSet X t)
    (ha : ∀ v, assign (.Subscript o i pos) X.env v = (do
      let ov ← holding [v] (eval o X.env)
      let iv ← holding [v, ov] (eval i X.env)
      standAt pos
      holding [v, ov, iv] (setItem ov iv v)
      release [v, ov, iv] []) := by intro _; rfl) : PG X (.Subscript o i pos) (gSub to ti t) := by
  intro pins s σ H v u Q I r h
  rw [ha]
  refine wpAny_bind (wpAny_holding (thn (ho pins s σ H _ I h) fun ov s1 ⟨x, H1, I1, r1, q1⟩ => ?_))
  refine wpAny_bind (wpAny_holding (thn (hi pins s1 σ H1 _ I1 q1) fun iv s2 ⟨y, H2, I2, r2, q2⟩ => ?_))
  refine wpAny_bind (wpAny_standAt (wpAny_bind (wpAny_holding (thn (hs pins s2 σ H2 x y v ov iv u _ I2 r1 r2 r q2) fun _ s3 ⟨H3, I3, q3⟩ => ?_))))
  exact wpAny_release ⟨σ, H3, I3, q3⟩
/-- target = value -/
def tAsg (te : TE) (g : TG) : TS := fun D σ H => te σ H fun x H1 => g x σ H1 D.nx
theorem ps_asg {tg e : Expr} {te : TE} {g : TG} (he : PE X e te) (hg : PG X tg g) (hs : swapsWithSole [tg] e pos.line X.env = pure false := by rfl) (hw : swappedStores [tg] e X.env = pure none := by rfl)
    (h1 : (assignEach [tg] X.env).map (·.2) = [assign tg X.env] := by rfl) : PS X (.Assign [tg] e pos) (tAsg te g) := by
  intro pins s σ H D I h
  refine wpAny_Assign_stores (thn (he pins s σ H _ I h) fun v s1 ⟨x, H1, I1, r1, q1⟩ => ?_) hs hw
  rw [h1]
  exact thn (hg pins s1 σ H1 x v _ I1 r1 q1) fun _ s2 q => q
/-- name = value -/
theorem ps_set {i : Nat} {x : Str} {e : Expr} {te : TE} {pos' : Pos} (hN : X.N.Nodup) (hi : X.N[i]? = some x) (hx : Loc X.env.scope x) (he : PE X e te) (hs : swapsWith e (some (.Name x pos')) pos.line X.env = pure false := by rfl) (hf : X.fn x = true ∨ X.env.scope.names.lookup x = some .local := by first | exact .inl rfl | exact .inr rfl | assumption) :
    PS X (.Assign [.Name x pos'] e pos) (tAsg te (gName i)) := by
  intro pins s σ H D I h
  refine wpAny_Assign_Name (thn (he pins s σ H _ I h) fun v s1 ⟨y, H1, I1, r1, q1⟩ => ?_) hs
  exact store_ok I1 hN hi hx r1 (fun s2 I2 => ⟨_, H1, I2, q1⟩) hf
end

/-! ### while -/
section
variable {X : Cx} {pos : Pos}
/-- the invariant W with its measure -/
def tWhile (c : TT) (tb : TS) : TS := fun D σ H => ∃ W : Nat → St → Hp → Prop, (∃ m, W m σ H) ∧ ∀ m σ H, W m σ H →
  c σ H fun b H1 => if b = true then ∃ N : St → Hp → Prop, (∀ σ' H', N σ' H' → ∃ m', m' < m ∧ W m' σ' H') ∧ tb { D with nx := N, ct := N, bk := D.nx } σ H1 else D.nx σ H1
end

/-! ### what a loop or a comprehension walks -/
/-- at turn i: it yields x (the heap may grow), or it stops -/
structure It where
  go : Nat → Hp → Prop
  yld : Nat → Hp → V → Hp → Prop
  stop : Nat → Hp → Prop
/-- the iterator's own objects may turn: they are not the frame's, not pinned, younger than the entry (or a comprehension's own) -/
def FpOk (X : Cx) (pins : List (Addr × Obj)) (H : Hp) (b : Addr) : Prop :=
  H b = none ∧ b ≠ X.env.locals ∧ b ∉ X.fs ∧ (b ∈ X.ex ∨ X.s_0.heap.objs.size ≤ b) ∧ (∀ x c, X.env.cells.lookup x = some c → c ≠ b) ∧ ∀ p ∈ X.pn ++ pins, p.1 ≠ b
theorem Inv.fpOk {X : Cx} {pins : List (Addr × Obj)} {σ : St} {H H' : Hp} {s : Shared} {b : Addr} (I : Inv X pins σ H s) (hb : s.heap.objs.size ≤ b) (hn : H' b = none) : FpOk X pins H' b := by
  refine ⟨hn, Nat.ne_of_gt (Nat.lt_of_lt_of_le I.lt hb), I.nofs hb, .inr (Nat.le_trans I.sz hb), fun x c e z => ?_, fun p hp z => ?_⟩
  · obtain ⟨v, q⟩ := I.cell x c e
    exact absurd (Nat.lt_of_lt_of_le q.lt (by rw [z]; exact hb)) (Nat.lt_irrefl _)
  · exact absurd (Nat.lt_of_lt_of_le (Heap.lt_size (I.pin p hp).1) (by rw [z]; exact hb)) (Nat.lt_irrefl _)
structure Turn (P : Program) (w : World) (K : PySem.W.Frag) (tg : Expr) (J : It) (fp : List Addr) (it : Addr) (tn : Nat → Heap → Prop) : Prop where
  mem : it ∈ fp
  obj : ∀ i h, tn i h → ∀ b ∈ fp, ∃ o, h.get? b = some o ∧ ∀ v, o.data ≠ .cell v
  keep : ∀ i h h', tn i h → (∀ b ∈ fp, ∀ o, h.get? b = some o → h'.get? b = some o) → tn i h'
  item : ∀ (X : Cx), X.prog = P → X.w = w → X.K = K → X.calm = true → ∀ (i : Nat) (pins : List (Addr × Obj)) (s : Shared) (σ : St) (H : Hp) (E : Value → Shared → Prop), Inv X pins σ H s → (∀ b ∈ fp, FpOk X pins H b) → tn i s.heap → J.go i H →
    wpAny (model P w) X.A (pyNext (.ref it)) (fun r s1 => ∃ u, r = some u ∧
      wpAny (model P w) X.A (letOwnedTupleGo tg (.ref it) u) (fun _ s2 => ∃ x H', Inv X pins σ H' s2 ∧ RelV x u ∧ J.yld i H x H' ∧ tn (i + 1) s2.heap ∧ ∀ b ∈ fp, H' b = none) E s1) E s
  done : ∀ (X : Cx), X.prog = P → X.w = w → X.K = K → X.calm = true → ∀ (i : Nat) (pins : List (Addr × Obj)) (s : Shared) (σ : St) (H : Hp) (E : Value → Shared → Prop), Inv X pins σ H s → (∀ b ∈ fp, FpOk X pins H b) → tn i s.heap → J.stop i H →
    wpAny (model P w) X.A (pyNext (.ref it)) (fun r s1 => r = none ∧ Inv X pins σ H s1) E s
  self : ∀ (A : Around) (i : Nat) (s : Shared) (Q : Value → Shared → Prop) (E : Value → Shared → Prop), tn i s.heap → Q (.ref it) s → wpAny (model P w) A (pyIter (.ref it)) Q E s
abbrev TI := St → Hp → (It → Hp → Prop) → Prop
/-- an iterator has come -/
def PIE (X : Cx) (pins : List (Addr × Obj)) (σ : St) (tg : Expr) (R : It → Hp → Prop) (itv : Value) (s2 : Shared) : Prop :=
  ∃ (it : Addr) (fp : List Addr) (tn : Nat → Heap → Prop) (J : It) (H' : Hp), itv = .ref it ∧ Inv X pins σ H' s2 ∧ Turn X.prog X.w X.K tg J fp it tn ∧ tn 0 s2.heap ∧ (∀ b ∈ fp, FpOk X pins H' b) ∧ R J H'
def PI (X : Cx) (tg iter : Expr) (wi : TI) : Prop :=
  ∀ (pins : List (Addr × Obj)) (s : Shared) (σ : St) (H : Hp) (R : It → Hp → Prop), Inv X pins σ H s → wi σ H R →
    wpAny (model X.prog X.w) X.A (eval iter X.env) (fun v s1 => wpAny (model X.prog X.w) X.A (pyIter v) (PIE X pins σ tg R) X.xe s1) X.xe s

/-- the step ahead of the store is nothing for an iterator that keeps no tuple -/
theorem go_of {M : Model} {A : Around} {E : Value → Shared → Prop} {s : Shared} {tg : Expr} {it : Addr} {u : Value} {o : Obj} {n : String} {vs : Array Value} {Q : Unit → Shared → Prop} (ho : s.heap.get? it = some o) (hc : o.cls = .type n) (hd : o.data = .fields vs)
    (hn : ["enumerate", "zip", "dict_itemiterator", "dict_reverseitemiterator", "odict_iterator", "itertools.zip_longest", "itertools.pairwise"].contains n = false) (hQ : Q () s) : wpAny M A (letOwnedTupleGo tg (.ref it) u) Q E s := by
  unfold letOwnedTupleGo
  cases tg <;> first
    | exact wpAny_pure hQ
    | (cases u <;> first
        | exact wpAny_pure hQ
        | (refine wpAny_bind (wpAny_load ho ?_)
           rw [hc, hd]
           show wpAny M A (if (["enumerate", "zip", "dict_itemiterator", "dict_reverseitemiterator", "odict_iterator", "itertools.zip_longest", "itertools.pairwise"].contains n && vs[0]? == some (rawInt _)) = true then _ else _) Q E s
           rw [if_neg (by intro h; rw [hn, Bool.false_and] at h; cases h)]
           exact wpAny_pure hQ))

/-- the list at a, as it stands at each turn (a loop may append to it) -/
def Itl (K : PySem.W.Frag) (a : Addr) : It :=
  ⟨fun i H => ∃ xs x, SqL K H a xs ∧ xs[i]? = some x, fun i H x H' => H' = H ∧ ∀ xs, SqL K H a xs → xs[i]? = some x, fun i H => ∃ xs, SqL K H a xs ∧ xs.length ≤ i⟩
def Itt (K : PySem.W.Frag) (a : Addr) : It :=
  ⟨fun i H => ∃ xs x, SqT K H a xs ∧ xs[i]? = some x, fun i H x H' => H' = H ∧ ∀ xs, SqT K H a xs → xs[i]? = some x, fun i H => ∃ xs, SqT K H a xs ∧ xs.length ≤ i⟩
/-- lo, lo + 1, .. (n of them) -/
def Itr (lo : Int) (n : Nat) : It := ⟨fun i _ => i < n, fun i H x H' => H' = H ∧ x = .int (lo + i), fun i _ => n ≤ i⟩
theorem turn_list {P : Program} {w : World} {K : PySem.W.Frag} {tg : Expr} (a it : Addr) : Turn P w K tg (Itl K a) [it] it (fun i h => h.IsListIter it a i) where
  mem := by simp
  obj := fun i h st b hb => by
    have e : b = it := by simpa using hb
    subst e
    obtain ⟨o, e, c, d⟩ := st
    exact ⟨o, e, fun v z => by rw [d] at z; cases z⟩
  keep := fun i h h' st k => st.at fun o e => k it (by simp) o e
  item := by
    intro X hP hw hK hc i pins s σ H E I hf st hg
    subst hP hw hK
    obtain ⟨xs, x, hq, hx⟩ := hg
    obtain ⟨its, rv, p, hz⟩ := I.list hq
    obtain ⟨u, hu, ru⟩ := rv.get hx
    obtain ⟨f0, f1, f2, f3, f4, f5⟩ := hf it (by simp)
    refine wpAny_pyNext_list_item st p.isList (x := u) (by simpa using hu) fun h' st' sb => ?_
    have I1 : Inv X pins σ H { s with heap := h' } := I.turned (t' := s.toks) (fun b o hb e => (sb.2 b hb).trans e) f0 f1 f3 f4 f5
    obtain ⟨o, e, c, d⟩ := id st'
    exact ⟨u, rfl, go_of (s := { s with heap := h' }) e c d (by decide) ⟨x, H, I1, ru, ⟨rfl, fun ys hy => by rw [I.list_inj hy hq]; exact hx⟩, st', fun b hb => (hf b hb).1⟩⟩
  done := by
    intro X hP hw hK hc i pins s σ H E I hf st hg
    subst hP hw hK
    obtain ⟨xs, hq, hx⟩ := hg
    obtain ⟨its, rv, p, hz⟩ := I.list hq
    obtain ⟨f0, f1, f2, f3, f4, f5⟩ := hf it (by simp)
    have hl := rv.length
    exact wpAny_pyNext_list_end (I.ok.hd hc) st p.isList (by simp; omega) fun h' eb => ⟨rfl, I.turned (t' := s.toks) (fun b o hb e => eb b o hb e) f0 f1 f3 f4 f5⟩
  self := fun _ _ _ _ _ st h => wpAny_pyIter_listiter st h
theorem turn_range {P : Program} {w : World} {K : PySem.W.Frag} {tg : Expr} (it : Addr) (lo : Int) (n : Nat) : Turn P w K tg (Itr lo n) [it] it (fun i h => IsRangeIter h it (lo + (i : Nat) * 1) ((n : Int) - (i : Nat)) 1) where
  mem := by simp
  obj := fun i h st b hb => by
    have e : b = it := by simpa using hb
    subst e
    exact ⟨_, st, fun v z => by
      have z' : Data.fields _ = Data.cell v := z
      cases z'⟩
  keep := fun i h h' st k => k it (by simp) _ st
  item := by
    intro X hP hw hK hc i pins s σ H E I hf st hg
    subst hP hw hK
    obtain ⟨f0, f1, f2, f3, f4, f5⟩ := hf it (by simp)
    have W := Walks.range (prog := X.prog) (w := X.w) (I.ok.hd hc) it lo 1 n
    refine W.item i s _ _ hg st fun v h' tk hv st' kk => ?_
    obtain ⟨t, rfl⟩ := hv
    have I1 : Inv X pins σ H { s with heap := h', toks := tk } := I.turned (fun b o hb e => kk b o (by simpa using hb) e) f0 f1 f3 f4 f5
    refine ⟨_, rfl, go_of (s := { s with heap := h', toks := tk }) (n := "range_iterator") st' rfl rfl (by decide) ⟨.int (lo + i), H, I1, ⟨t, ?_⟩, ⟨rfl, rfl⟩, st', fun b hb => (hf b hb).1⟩⟩
    rw [Int.mul_one]
  done := by
    intro X hP hw hK hc i pins s σ H E I hf st hg
    subst hP hw hK
    obtain ⟨f0, f1, f2, f3, f4, f5⟩ := hf it (by simp)
    exact wpAny_pyNext_range_end (I.ok.hd hc) st (by have : n ≤ i := hg; omega) fun h' eb => ⟨rfl, I.turned (t' := s.toks) (fun b o hb e => eb b o hb e) f0 f1 f3 f4 f5⟩
  self := fun _ _ _ _ _ st h => wpAny_pyIter_rangeiter st h
end L2

namespace L2
open PySem PySem.Spec PyProof.Rows
section
variable {X : Cx} {tg : Expr}
def iList (K : PySem.W.Frag) (tl : TE) : TI := fun σ H R => tl σ H fun x H1 => ∃ a, x = .ref a ∧ (∃ xs, SqL K H1 a xs) ∧ R (Itl K a) H1
def iTup (K : PySem.W.Frag) (tl : TE) : TI := fun σ H R => tl σ H fun x H1 => ∃ a, x = .ref a ∧ (∃ xs, SqT K H1 a xs) ∧ R (Itt K a) H1
theorem pi_list {l : Expr} {tl : TE} (hl : PE X l tl) : PI X tg l (iList X.K tl) := by
  intro pins s σ H R I h
  refine thn (hl pins s σ H _ I h) fun v s1 ⟨x, H1, I1, r1, q1⟩ => ?_
  obtain ⟨a, e, ⟨xs, hq⟩, q⟩ := q1
  subst e
  cases r1
  obtain ⟨its, rv, p, hz⟩ := I1.list hq
  refine wpAny_pyIter_list p.isList ?_
  refine ⟨s1.heap.objs.size, [s1.heap.objs.size], _, _, H1, rfl, I1.kept (t' := s1.toks) fun b o e => Heap.get?_push_of_some _ e, turn_list a _, ⟨_, Heap.get?_push_size _ rfl, rfl, rfl⟩, fun b hb => ?_, q⟩
  have e : b = s1.heap.objs.size := by simpa using hb
  subst e
  exact I1.fpOk (Nat.le_refl _) (I1.hok.fresh (Nat.le_refl _))
/-- a range object just made, walked -/
theorem range_it {pins : List (Addr × Obj)} {σ : St} {H : Hp} {s : Shared} {R : It → Hp → Prop} {E : Value → Shared → Prop} {lo hi : Int} {t u v : Tok} {tk : Nat} (I : Inv X pins σ H s) (h1 : -(2 ^ 62) ≤ lo) (h2 : lo < 2 ^ 62) (h3 : -(2 ^ 62) ≤ hi) (h4 : hi < 2 ^ 62)
    (q : R (Itr lo (hi - lo).toNat) H) : wpAny (model X.prog X.w) X.A (pyIter (.ref s.heap.objs.size)) (PIE X pins σ tg R) E { s with heap := s.heap.push { cls := .type "range", data := .fields #[.int lo t, .int hi u, .int 1 v] }, toks := tk } := by
  refine wpAny_pyIter_range (IsRange.new ..) (small_one h1 h2 h3 h4) ?_
  have I1 : Inv X pins σ H { s with heap := s.heap.push { cls := .type "range", data := .fields #[.int lo t, .int hi u, .int 1 v] }, toks := tk } := I.kept fun b o e => Heap.get?_push_of_some _ e
  refine ⟨(s.heap.push { cls := .type "range", data := .fields #[.int lo t, .int hi u, .int 1 v] }).objs.size, [(s.heap.push { cls := .type "range", data := .fields #[.int lo t, .int hi u, .int 1 v] }).objs.size], _, _, H, rfl,
    I1.kept (t' := tk) fun b o e => Heap.get?_push_of_some _ e, turn_range _ lo (hi - lo).toNat, ?_, fun b hb => ?_, q⟩
  · have e1 : lo + ((0 : Nat) : Int) * 1 = lo := by simp
    have e2 : (((hi - lo).toNat : Nat) : Int) - ((0 : Nat) : Int) = Builtin.Range.rangeSize lo hi 1 := by rw [rangeSize_one]; split <;> omega
    show IsRangeIter _ _ (lo + ((0 : Nat) : Int) * 1) ((((hi - lo).toNat : Nat) : Int) - ((0 : Nat) : Int)) 1
    rw [e1, e2]
    exact Heap.get?_push_size _ rfl
  · have e : b = (s.heap.push { cls := .type "range", data := .fields #[.int lo t, .int hi u, .int 1 v] }).objs.size := by simpa using hb
    subst e
    exact I1.fpOk (Nat.le_refl _) (I1.hok.fresh (Nat.le_refl _))
def iRng1 (ta : TA) : TI := fun σ H R => ta σ H fun vs H1 => ∃ j : Int, vs = [.int j] ∧ -(2 ^ 62) ≤ j ∧ j < 2 ^ 62 ∧ R (Itr 0 j.toNat) H1
def iRng2 (ta : TA) : TI := fun σ H R => ta σ H fun vs H1 => ∃ i j : Int, vs = [.int i, .int j] ∧ (-(2 ^ 62) ≤ i ∧ i < 2 ^ 62 ∧ -(2 ^ 62) ≤ j ∧ j < 2 ^ 62) ∧ R (Itr i (j - i).toNat) H1
theorem pi_range1 {a : Expr} {ta : TA} {p pos : Pos} (hg : Gl X "range") (hm : X.mg "range" = none) (ha : PA X [a] ta) (hs : starEach [a] X.env = [(false, eval a X.env)] := by rfl) : PI X tg (.Call (.Name "range" p) [a] [] pos) (iRng1 ta) := by
  intro pins s σ H R I h
  refine Call_ (ld_blt I hg hm boot_range (PyProof.Rows.callWith_type1 (thn (ha pos pins s σ H _ I h) fun us s1 ⟨vs, H1, I1, r1, q1⟩ => ?_) hs rfl))
  obtain ⟨j, e, q1, q2, q⟩ := q1
  subst e
  cases r1 with
  | cons r rr =>
    cases rr
    obtain ⟨t, rfl⟩ := r
    exact call_range_1 (range_it I1 (by omega) (by omega) q1 q2 (by simpa using q))
theorem pi_range2 {a b : Expr} {ta : TA} {p pos : Pos} (hg : Gl X "range") (hm : X.mg "range" = none) (ha : PA X [a, b] ta) (hs : starEach [a, b] X.env = [(false, eval a X.env), (false, eval b X.env)] := by rfl) (hs2 : starEach [b] X.env = [(false, eval b X.env)] := by rfl) :
    PI X tg (.Call (.Name "range" p) [a, b] [] pos) (iRng2 ta) := by
  intro pins s σ H R I h
  refine Call_ (ld_blt I hg hm boot_range (PyProof.Rows.callWith_type1 (thn (ha pos pins s σ H _ I h) fun us s1 ⟨vs, H1, I1, r1, q1⟩ => ?_) (by rw [hs, hs2]) (by rw [hs2]; rfl)))
  obtain ⟨i, j, e, ⟨q1, q2, q3, q4⟩, q⟩ := q1
  subst e
  cases r1 with
  | cons r rr =>
    cases rr with
    | cons r' rr =>
      cases rr
      obtain ⟨t, rfl⟩ := r
      obtain ⟨t', rfl⟩ := r'
      exact call_range_2 (range_it I1 q1 q2 q3 q4 q)

/-! ### for -/
/-- W: the invariant by the turn and a measure; N: what the body is to reach -/
def tFor (wi : TI) (g : TG) (tb : TS) : TS := fun D σ H => wi σ H fun J H1 => ∃ W : Nat → Nat → St → Hp → Prop, (∃ m, W 0 m σ H1) ∧ ∀ i m σ H, W i m σ H →
  (J.stop i H ∧ D.nx σ H) ∨ (J.go i H ∧ ∃ N : St → Hp → Prop, (∀ σ' H', N σ' H' → ∃ m', m' < m ∧ W (i + 1) m' σ' H') ∧ ∀ x H', J.yld i H x H' → g x σ H' fun σ2 H2 => tb { D with nx := N, ct := N, bk := D.nx } σ2 H2)
/-- the records at fp as they stand -/
def pinsAt (fp : List Addr) (h : Heap) : List (Addr × Obj) := fp.filterMap fun b => (h.get? b).map fun o => (b, o)
theorem mem_pinsAt {fp : List Addr} {h : Heap} {b : Addr} {o : Obj} (hb : b ∈ fp) (e : h.get? b = some o) : (b, o) ∈ pinsAt fp h := List.mem_filterMap.mpr ⟨b, hb, by rw [e]; rfl⟩
theorem of_pinsAt {fp : List Addr} {h : Heap} {p : Addr × Obj} (hp : p ∈ pinsAt fp h) : p.1 ∈ fp ∧ h.get? p.1 = some p.2 := by
  obtain ⟨b, hb, e⟩ := List.mem_filterMap.mp hp
  cases q : h.get? b with
  | none => rw [q] at e; cases e
  | some o =>
    rw [q] at e
    have e' : (b, o) = p := Option.some.inj e
    subst e'
    exact ⟨hb, q⟩
theorem Inv.pinned {pins : List (Addr × Obj)} {σ : St} {H : Hp} {s : Shared} {fp : List Addr} (I : Inv X pins σ H s) (hf : ∀ b ∈ fp, FpOk X pins H b) (ho : ∀ b ∈ fp, ∃ o, s.heap.get? b = some o ∧ ∀ v, o.data ≠ .cell v) : Inv X (pins ++ pinsAt fp s.heap) σ H s :=
  I.pins_of fun p hp => (List.mem_append.mp hp).elim (fun z => I.pin p (List.mem_append_right _ z)) fun z => by
    obtain ⟨hb, e⟩ := of_pinsAt z
    obtain ⟨f0, f1, f2, _⟩ := hf p.1 hb
    obtain ⟨o, e', d⟩ := ho p.1 hb
    rw [e] at e'; cases e'
    exact ⟨e, f0, f1, f2, d⟩
theorem Inv.unpinned {pins pl : List (Addr × Obj)} {σ : St} {H : Hp} {s : Shared} (I : Inv X (pins ++ pl) σ H s) : Inv X pins σ H s := I.pins_of fun p hp => I.pin p (List.mem_append_right _ (List.mem_append_left _ hp))
theorem ps_for {iter : Expr} {body : List Stmt} {wi : TI} {g : TG} {tb : TS} {pos : Pos} (hp : PassesOwn (model X.prog X.w) X.A X.env X.xe) (hc : X.calm = true) (hi : PI X tg iter wi) (hg : PG X tg g) (hb : PSs X body tb)
    (hs : ∀ x, foldedSetIterable iter X.env x = pure x := by intro _; rfl) : PS X (.For tg iter body [] pos) (tFor wi g tb) := by
  intro pins s σ H D I h
  refine wpAny_For (thn (hi pins s σ H _ I h) fun v s1 h1 => thn h1 fun itv s2 h2 => ?_) hs
  obtain ⟨it, fp, tn, J, H2, e, I2, T, st2, f2, W, ⟨m0, w0⟩, turn⟩ := h2
  subst e
  -- what stays true of the iterator's objects through the loop
  have stat : ∀ {H' : Hp}, (∀ b ∈ fp, H' b = none) → ∀ b ∈ fp, FpOk X pins H' b := fun hn b hb => ⟨hn b hb, (f2 b hb).2⟩
  refine codeAny_forLoop_any (fun n s' => ∃ i σ' H', Inv X pins σ' H' s' ∧ tn i s'.heap ∧ (∀ b ∈ fp, H' b = none) ∧ W i n σ' H') ?_ m0 ⟨0, σ, H2, I2, st2, fun b hb => (f2 b hb).1, w0⟩
  rintro n s3 ⟨i, σ3, H3, I3, st3, fr3, w3⟩
  rcases turn i n σ3 H3 w3 with ⟨stop, qn⟩ | ⟨go, N, hN, step⟩
  · refine wpAny_passesOwn hp (thn (T.done X rfl rfl rfl hc i pins s3 σ3 H3 X.xe I3 (stat fr3) st3 stop) fun r s4 ⟨hr, I4⟩ => ?_)
    subst hr
    exact wpAny_execs_nil ⟨σ3, H3, I4, qn⟩
  · refine wpAny_passesOwn hp (thn (T.item X rfl rfl rfl hc i pins s3 σ3 H3 X.xe I3 (stat fr3) st3 go) fun r s4 ⟨u, hr, h4⟩ => ?_)
    subst hr
    refine wpAny_passesOwn hp (thn h4 fun _ s5 ⟨x, H5, I5, r5, y5, st5, fr5⟩ => ?_)
    have I5' := I5.pinned (stat fr5) (T.obj _ _ st5)
    refine wpAny_passesOwn hp (thn (hg _ s5 σ3 H5 x u _ I5' r5 (step x H5 y5)) fun _ s6 ⟨σ6, H6, I6, q6⟩ => ?_)
    refine wpAny_passesOwn hp (thn (hb _ s6 σ6 H6 _ I6 q6) fun f s7 q7 => ?_)
    have again : ∀ {σ7 : St} {H7 : Hp}, Inv X (pins ++ pinsAt fp s5.heap) σ7 H7 s7 → N σ7 H7 → ∃ m, m < n ∧ ∃ i σ' H', Inv X pins σ' H' s7 ∧ tn i s7.heap ∧ (∀ b ∈ fp, H' b = none) ∧ W i m σ' H' := fun {σ7 H7} I7 n7 => by
      obtain ⟨m', hm, w7⟩ := hN σ7 H7 n7
      refine ⟨m', hm, i + 1, σ7, H7, I7.unpinned, T.keep _ _ _ st5 fun b hb o e => (I7.pin (b, o) (List.mem_append_right _ (List.mem_append_right _ (mem_pinsAt hb e)))).1, fun b hb => ?_, w7⟩
      obtain ⟨o, e, d⟩ := T.obj _ _ st5 b hb
      exact (I7.pin (b, o) (List.mem_append_right _ (List.mem_append_right _ (mem_pinsAt hb e)))).2.1
    cases f with
    | next => obtain ⟨σ7, H7, I7, n7⟩ := q7; exact again I7 n7
    | cont => obtain ⟨σ7, H7, I7, n7⟩ := q7; exact again I7 n7
    | brk => obtain ⟨σ7, H7, I7, q7⟩ := q7; exact ⟨σ7, H7, I7.unpinned, q7⟩
    | ret v => obtain ⟨x7, σ7, H7, I7, r7, q7⟩ := q7; exact ⟨x7, σ7, H7, I7.unpinned, r7, q7⟩
end

/-! ### the forms one uses -/
/-- over a list that the body leaves as it is -/
theorem for_list {K : PySem.W.Frag} {a : Addr} {xs : List V} {g : TG} {tb : TS} {D : Ends} {σ : St} {H : Hp} (Pv : Nat → St → Hp → Prop) (h0 : Pv 0 σ H) (hl : ∀ i σ H, i ≤ xs.length → Pv i σ H → SqL K H a xs)
    (hs : ∀ i x σ H, xs[i]? = some x → Pv i σ H → g x σ H fun σ2 H2 => tb { D with nx := Pv (i + 1), ct := Pv (i + 1), bk := D.nx } σ2 H2) (hd : ∀ σ H, Pv xs.length σ H → D.nx σ H) :
    ∃ W : Nat → Nat → St → Hp → Prop, (∃ m, W 0 m σ H) ∧ ∀ i m σ H, W i m σ H →
      ((Itl K a).stop i H ∧ D.nx σ H) ∨ ((Itl K a).go i H ∧ ∃ N : St → Hp → Prop, (∀ σ' H', N σ' H' → ∃ m', m' < m ∧ W (i + 1) m' σ' H') ∧ ∀ x H', (Itl K a).yld i H x H' → g x σ H' fun σ2 H2 => tb { D with nx := N, ct := N, bk := D.nx } σ2 H2) := by
  refine ⟨fun i m σ H => m = xs.length - i ∧ i ≤ xs.length ∧ Pv i σ H, ⟨xs.length, by simp, Nat.zero_le _, h0⟩, ?_⟩
  rintro i m σ H ⟨rfl, hi, p⟩
  have q := hl i σ H hi p
  by_cases hlt : i < xs.length
  · refine .inr ⟨⟨xs, xs[i], q, by simp [hlt]⟩, Pv (i + 1), fun σ' H' p' => ⟨xs.length - (i + 1), by omega, rfl, hlt, p'⟩, fun x H' y => ?_⟩
    obtain ⟨e, y⟩ := y
    subst e
    exact hs i x σ _ (y xs q) p
  · have e : i = xs.length := by omega
    subst e
    exact .inl ⟨⟨xs, q, Nat.le_refl _⟩, hd σ H p⟩
theorem for_tup {K : PySem.W.Frag} {a : Addr} {xs : List V} {g : TG} {tb : TS} {D : Ends} {σ : St} {H : Hp} (Pv : Nat → St → Hp → Prop) (h0 : Pv 0 σ H) (hl : ∀ i σ H, i ≤ xs.length → Pv i σ H → SqT K H a xs)
    (hs : ∀ i x σ H, xs[i]? = some x → Pv i σ H → g x σ H fun σ2 H2 => tb { D with nx := Pv (i + 1), ct := Pv (i + 1), bk := D.nx } σ2 H2) (hd : ∀ σ H, Pv xs.length σ H → D.nx σ H) :
    ∃ W : Nat → Nat → St → Hp → Prop, (∃ m, W 0 m σ H) ∧ ∀ i m σ H, W i m σ H →
      ((Itt K a).stop i H ∧ D.nx σ H) ∨ ((Itt K a).go i H ∧ ∃ N : St → Hp → Prop, (∀ σ' H', N σ' H' → ∃ m', m' < m ∧ W (i + 1) m' σ' H') ∧ ∀ x H', (Itt K a).yld i H x H' → g x σ H' fun σ2 H2 => tb { D with nx := N, ct := N, bk := D.nx } σ2 H2) := by
  refine ⟨fun i m σ H => m = xs.length - i ∧ i ≤ xs.length ∧ Pv i σ H, ⟨xs.length, by simp, Nat.zero_le _, h0⟩, ?_⟩
  rintro i m σ H ⟨rfl, hi, p⟩
  have q := hl i σ H hi p
  by_cases hlt : i < xs.length
  · refine .inr ⟨⟨xs, xs[i], q, by simp [hlt]⟩, Pv (i + 1), fun σ' H' p' => ⟨xs.length - (i + 1), by omega, rfl, hlt, p'⟩, fun x H' y => ?_⟩
    obtain ⟨e, y⟩ := y
    subst e
    exact hs i x σ _ (y xs q) p
  · have e : i = xs.length := by omega
    subst e
    exact .inl ⟨⟨xs, q, Nat.le_refl _⟩, hd σ H p⟩
theorem for_range {lo : Int} {n : Nat} {g : TG} {tb : TS} {D : Ends} {σ : St} {H : Hp} (Pv : Nat → St → Hp → Prop) (h0 : Pv 0 σ H)
    (hs : ∀ i σ H, i < n → Pv i σ H → g (.int (lo + i)) σ H fun σ2 H2 => tb { D with nx := Pv (i + 1), ct := Pv (i + 1), bk := D.nx } σ2 H2) (hd : ∀ σ H, Pv n σ H → D.nx σ H) :
    ∃ W : Nat → Nat → St → Hp → Prop, (∃ m, W 0 m σ H) ∧ ∀ i m σ H, W i m σ H →
      ((Itr lo n).stop i H ∧ D.nx σ H) ∨ ((Itr lo n).go i H ∧ ∃ N : St → Hp → Prop, (∀ σ' H', N σ' H' → ∃ m', m' < m ∧ W (i + 1) m' σ' H') ∧ ∀ x H', (Itr lo n).yld i H x H' → g x σ H' fun σ2 H2 => tb { D with nx := N, ct := N, bk := D.nx } σ2 H2) := by
  refine ⟨fun i m σ H => m = n - i ∧ i ≤ n ∧ Pv i σ H, ⟨n, by simp, Nat.zero_le _, h0⟩, ?_⟩
  rintro i m σ H ⟨rfl, hi, p⟩
  by_cases hlt : i < n
  · refine .inr ⟨hlt, Pv (i + 1), fun σ' H' p' => ⟨n - (i + 1), by omega, rfl, hlt, p'⟩, fun x H' y => ?_⟩
    obtain ⟨e, y⟩ := y
    subst e y
    exact hs i σ _ hlt p
  · have e : i = n := by omega
    subst e
    exact .inl ⟨Nat.le_refl _, hd σ H p⟩
end L2

namespace L2
open PySem PySem.Spec PyProof.Rows

abbrev R2 := V → V → Hp → VK → Prop
/-- a two-place operation on values: f is binaryOp op, inplaceOp op or compareOp op -/
def OpR (X : Cx) (f : Value → Value → Sem Value) (r : R2) : Prop :=
  ∀ (pins : List (Addr × Obj)) (s : Shared) (σ : St) (H : Hp) (x y : V) (v u : Value) (Q : VK), Inv X pins σ H s → RelV x v → RelV y u → r x y H Q →
    wpAny (model X.prog X.w) X.A (f v u) (EP X pins σ Q) X.xe s
/-- a one-place operation -/
def UnR (X : Cx) (f : Value → Sem Value) (r : V → Hp → VK → Prop) : Prop :=
  ∀ (pins : List (Addr × Obj)) (s : Shared) (σ : St) (H : Hp) (x : V) (v : Value) (Q : VK), Inv X pins σ H s → RelV x v → r x H Q →
    wpAny (model X.prog X.w) X.A (f v) (EP X pins σ Q) X.xe s
/-- a call of a value that is known (a builtin, a type) with values -/
def CallR (X : Cx) (f : Value) (r : List V → Hp → VK → Prop) : Prop :=
  ∀ (pins : List (Addr × Obj)) (s : Shared) (σ : St) (H : Hp) (xs : List V) (us : List Value) (Q : VK), Inv X pins σ H s → Vals xs us → r xs H Q →
    wpAny (model X.prog X.w) X.A (call f us) (EP X pins σ Q) X.xe s
/-- a value's truth -/
def TruR (X : Cx) (r : V → Hp → (Bool → Hp → Prop) → Prop) : Prop :=
  ∀ (pins : List (Addr × Obj)) (s : Shared) (σ : St) (H : Hp) (x : V) (v : Value) (Q : Bool → Hp → Prop), Inv X pins σ H s → RelV x v → r x H Q →
    wpAny (model X.prog X.w) X.A (truthy v) (TP X pins σ Q) X.xe s

def tOp (r : R2) (ta tb : TE) : TE := fun σ H Q => ta σ H fun x H1 => tb σ H1 fun y H2 => r x y H2 Q
def tUn (r : V → Hp → VK → Prop) (ta : TE) : TE := fun σ H Q => ta σ H fun x H1 => r x H1 Q
/-- ints in, under C, and a value out -/
def rI (C : Int → Int → Prop) (g : Int → Int → V) : R2 := fun x y H Q => ∃ i j, x = .int i ∧ y = .int j ∧ C i j ∧ Q (g i j) H
def rI0 (g : Int → Int → V) : R2 := fun x y H Q => ∃ i j, x = .int i ∧ y = .int j ∧ Q (g i j) H
def rU (g : Int → V) : V → Hp → VK → Prop := fun x H Q => ∃ i, x = .int i ∧ Q (g i) H

section
variable {X : Cx} {a b c : Expr} {ta tb tc : TE} {pos : Pos}

theorem binT (ha : PE X a ta) (hb : PE X b tb) {pins : List (Addr × Obj)} {s : Shared} {σ : St} {H : Hp} {R : V → V → Hp → Prop} (I : Inv X pins σ H s)
    (h : ta σ H fun x H1 => tb σ H1 fun y H2 => R x y H2) {Q : Value → Shared → Prop} {f : Value → Value → Sem Value}
    (hf : ∀ v u s2 x y H2, Inv X pins σ H2 s2 → RelV x v → RelV y u → R x y H2 → wpAny (model X.prog X.w) X.A (f v u) Q X.xe s2) :
    wpAny (model X.prog X.w) X.A (eval a X.env) (fun v s₁ => wpAny (model X.prog X.w) X.A (eval b X.env) (fun u s₂ => wpAny (model X.prog X.w) X.A (f v u) Q X.xe s₂) X.xe s₁) X.xe s := by
  refine thn (ha pins s σ H _ I h) fun v s1 ⟨x, H1, I1, r1, q1⟩ => ?_
  refine thn (hb pins s1 σ H1 _ I1 q1) fun u s2 ⟨y, H2, I2, r2, q2⟩ => ?_
  exact hf v u s2 x y H2 I2 r1 r2 q2

theorem pe_op {op : Operator} {r : R2} (ho : OpR X (binaryOp op) r) (ha : PE X a ta) (hb : PE X b tb) : PE X (.BinOp a op b pos) (tOp r ta tb) := by
  intro pins s σ H Q I h
  exact wpAny_BinOp (binT ha hb I h fun v u s2 x y H2 I2 rx ry q => ho pins s2 σ H2 x y v u Q I2 rx ry q)
theorem pe_un {op : UnaryOp} {r : V → Hp → VK → Prop} (ho : UnR X (unaryOp op) r) (ha : PE X a ta) : PE X (.UnaryOp op a pos) (tUn r ta) := by
  intro pins s σ H Q I h
  exact UnaryOp_ (thn (ha pins s σ H _ I h) fun v s1 ⟨x, H1, I1, r1, q1⟩ => ho pins s1 σ H1 x v Q I1 r1 q1)
/-! ### ints -/
theorem opI {f : Value → Value → Sem Value} {C : Int → Int → Prop} {g : Int → Int → Int}
    (rule : ∀ (i j : Int) (t u : Tok) (s : Shared) (Q : Value → Shared → Prop) (E : Value → Shared → Prop), C i j → Q (.int (g i j) s.toks) { s with toks := s.toks + 1 } → wpAny (model X.prog X.w) X.A (f (.int i t) (.int j u)) Q E s) :
    OpR X f (rI C fun i j => .int (g i j)) := by
  intro pins s σ H x y v u Q I rx ry h
  obtain ⟨i, j, rfl, rfl, hc, q⟩ := h
  obtain ⟨t, rfl⟩ := rx
  obtain ⟨t', rfl⟩ := ry
  exact rule i j t t' s _ _ hc ⟨.int (g i j), H, I.tok _, ⟨_, rfl⟩, q⟩
theorem opI0 {f : Value → Value → Sem Value} {g : Int → Int → Int}
    (rule : ∀ (i j : Int) (t u : Tok) (s : Shared) (Q : Value → Shared → Prop) (E : Value → Shared → Prop), Q (.int (g i j) s.toks) { s with toks := s.toks + 1 } → wpAny (model X.prog X.w) X.A (f (.int i t) (.int j u)) Q E s) :
    OpR X f (rI0 fun i j => .int (g i j)) := by
  intro pins s σ H x y v u Q I rx ry h
  obtain ⟨i, j, rfl, rfl, q⟩ := h
  obtain ⟨t, rfl⟩ := rx
  obtain ⟨t', rfl⟩ := ry
  exact rule i j t t' s _ _ ⟨.int (g i j), H, I.tok _, ⟨_, rfl⟩, q⟩
theorem opB0 {f : Value → Value → Sem Value} {g : Int → Int → Bool}
    (rule : ∀ (i j : Int) (t u : Tok) (s : Shared) (Q : Value → Shared → Prop) (E : Value → Shared → Prop), Q (.bool (g i j)) s → wpAny (model X.prog X.w) X.A (f (.int i t) (.int j u)) Q E s) :
    OpR X f (rI0 fun i j => .bl (g i j)) := by
  intro pins s σ H x y v u Q I rx ry h
  obtain ⟨i, j, rfl, rfl, q⟩ := h
  obtain ⟨t, rfl⟩ := rx
  obtain ⟨t', rfl⟩ := ry
  exact rule i j t t' s _ _ ⟨.bl (g i j), H, I, rfl, q⟩

def CDiv (i j : Int) : Prop := 0 < j ∧ j < 1073741824
def CPow (i j : Int) : Prop := 0 ≤ j ∧ j ≤ 1000000 ∧ i.natAbs < 2 ^ 64
def CMul (i j : Int) : Prop := (-(2 ^ 64) < i ∧ i < 2 ^ 64) ∨ (-(2 ^ 64) < j ∧ j < 2 ^ 64)
theorem CMul.ok {i j : Int} (h : CMul i j) : IntMulOk i j := by
  rcases h with ⟨h1, h2⟩ | ⟨h1, h2⟩
  · exact .of_left (intBits_le_64 h1 h2)
  · exact .of_right (intBits_le_64 h1 h2)
theorem two_pow_nn (k : Nat) : (0 : Int) ≤ 2 ^ k := by
  rw [two_pow_cast]
  exact Int.natCast_nonneg _

theorem op_add : OpR X (binaryOp .Add) (rI0 fun i j => .int (i + j)) := opI0 fun _ _ _ _ _ _ _ q => add_int q
theorem op_sub : OpR X (binaryOp .Sub) (rI0 fun i j => .int (i - j)) := opI0 fun _ _ _ _ _ _ _ q => sub_int q
theorem op_mul : OpR X (binaryOp .Mult) (rI CMul fun i j => .int (i * j)) := opI fun _ _ _ _ _ _ _ hc q => mul_int q hc.ok
theorem op_shr : OpR X (binaryOp .RShift) (rI (fun _ j => 0 ≤ j) fun i j => .int (i / 2 ^ j.toNat)) := opI fun i j _ _ _ _ _ hc q =>
  rshift_int hc (by rw [Int.fdiv_eq_ediv_of_nonneg i (two_pow_nn _)]; exact q)
theorem op_and : OpR X (binaryOp .BitAnd) (rI0 fun i j => .int (Builtin.bitAnd i j)) := opI0 fun _ _ _ _ _ _ _ q => and_int q
theorem op_xor : OpR X (binaryOp .BitXor) (rI0 fun i j => .int (Builtin.bitXor i j)) := opI0 fun _ _ _ _ _ _ _ q => xor_int q

theorem unI {f : Value → Sem Value} {g : Int → Int}
    (rule : ∀ (i : Int) (t : Tok) (s : Shared) (Q : Value → Shared → Prop) (E : Value → Shared → Prop), Q (.int (g i) s.toks) { s with toks := s.toks + 1 } → wpAny (model X.prog X.w) X.A (f (.int i t)) Q E s) :
    UnR X f (rU fun i => .int (g i)) := by
  intro pins s σ H x v Q I rx h
  obtain ⟨i, rfl, q⟩ := h
  obtain ⟨t, rfl⟩ := rx
  exact rule i t s _ _ ⟨.int (g i), H, I.tok _, ⟨_, rfl⟩, q⟩
theorem un_neg : UnR X (unaryOp .USub) (rU fun i => .int (-i)) := unI fun _ _ _ _ _ q => neg_int q
/-! ### bools among ints: n += (a < b) -/
end

/-! ### comparisons -/
/-- the scalars that == tells apart as data does -/
def scal : V → V → Bool
  | .non, .non => true | .non, .int _ => true | .int _, .non => true | .non, .bl _ => true | .bl _, .non => true | .non, .str _ => true | .str _, .non => true
  | .int _, .int _ => true | .bl _, .bl _ => true | .str _, .str _ => true | .byt _, .byt _ => true
  | .int _, .str _ => true | .str _, .int _ => true | .bl _, .str _ => true | .str _, .bl _ => true
  | _, _ => false
def rEq : R2 := fun x y H Q => scal x y = true ∧ Q (.bl (decide (x = y))) H
def rNe : R2 := fun x y H Q => scal x y = true ∧ Q (.bl (!decide (x = y))) H

theorem dec_int {i j : Int} : decide (V.int i = V.int j) = (i == j) := by
  rw [Bool.eq_iff_iff]
  simp
theorem dec_bl {i j : Bool} : decide (V.bl i = V.bl j) = (i == j) := by
  rw [Bool.eq_iff_iff]
  simp
theorem dec_str {i j : Str} : decide (V.str i = V.str j) = (i == j) := by
  rw [Bool.eq_iff_iff]
  simp
theorem dec_byt {i j : Array UInt8} : decide (V.byt i = V.byt j) = (i.toList == j.toList) := by
  rw [Bool.eq_iff_iff]
  cases i
  cases j
  simp

section
variable {X : Cx} {a b c : Expr} {ta tb tc : TE} {pos : Pos}
theorem fin_bl {pins : List (Addr × Obj)} {σ : St} {H : Hp} {s : Shared} {Q : VK} {k k' : Bool} (I : Inv X pins σ H s) (q : Q (.bl k) H) (e : k = k') : EP X pins σ Q (.bool k') s := by
  subst e
  exact ⟨.bl k, H, I, rfl, q⟩
theorem op_eq : OpR X (compareOp .Eq) rEq := by
  intro pins s σ H x y v u Q I rx ry h
  obtain ⟨hs, q⟩ := h
  cases x with
  | non =>
    cases rx
    cases y with
    | non => cases ry; exact PySem.EqNone.eq_none_none (fin_bl I q (by simp))
    | bl j => cases ry; exact PySem.EqNone.eq_none_bool (fin_bl I q (by simp))
    | int j => obtain ⟨t', rfl⟩ := ry; exact PySem.EqNone.eq_none_int (fin_bl I q (by simp))
    | str j => obtain ⟨t', rfl⟩ := ry; exact PySem.EqNone.eq_none_str (fin_bl I q (by simp))
    | _ => exact absurd (show false = true from hs) Bool.false_ne_true
  | bl i =>
    cases rx
    cases y with
    | non => cases ry; exact PySem.EqNone.eq_bool_none (fin_bl I q (by simp))
    | bl j => cases ry; exact eq_bool (fin_bl I q dec_bl)
    | str j => obtain ⟨t', rfl⟩ := ry; exact PySem.EqMixed.eq_bool_str (fin_bl I q (by simp))
    | _ => exact absurd (show false = true from hs) Bool.false_ne_true
  | int i =>
    obtain ⟨t, rfl⟩ := rx
    cases y with
    | non => cases ry; exact PySem.EqNone.eq_int_none (fin_bl I q (by simp))
    | int j => obtain ⟨t', rfl⟩ := ry; exact eq_int (fin_bl I q dec_int)
    | str j => obtain ⟨t', rfl⟩ := ry; exact PySem.EqMixed.eq_int_str (fin_bl I q (by simp))
    | _ => exact absurd (show false = true from hs) Bool.false_ne_true
  | str i =>
    obtain ⟨t, rfl⟩ := rx
    cases y with
    | non => cases ry; exact PySem.EqNone.eq_str_none (fin_bl I q (by simp))
    | bl j => cases ry; exact PySem.EqMixed.eq_str_bool (fin_bl I q (by simp))
    | int j => obtain ⟨t', rfl⟩ := ry; exact PySem.EqMixed.eq_str_int (fin_bl I q (by simp))
    | str j => obtain ⟨t', rfl⟩ := ry; exact eq_str (fin_bl I q dec_str)
    | _ => exact absurd (show false = true from hs) Bool.false_ne_true
  | byt i =>
    obtain ⟨t, rfl⟩ := rx
    cases y with
    | byt j => obtain ⟨t', rfl⟩ := ry; exact PySem.W.eq_bytes (fin_bl I q dec_byt)
    | _ => exact absurd (show false = true from hs) Bool.false_ne_true
  | _ => cases y <;> exact absurd (show false = true from hs) Bool.false_ne_true
theorem op_ne : OpR X (compareOp .NotEq) rNe := by
  intro pins s σ H x y v u Q I rx ry h
  obtain ⟨hs, q⟩ := h
  cases x with
  | non =>
    cases rx
    cases y with
    | non => cases ry; exact PySem.EqNone.ne_none_none (fin_bl I q (by simp))
    | bl j => cases ry; exact PySem.EqNone.ne_none_bool (fin_bl I q (by simp))
    | int j => obtain ⟨t', rfl⟩ := ry; exact PySem.EqNone.ne_none_int (fin_bl I q (by simp))
    | str j => obtain ⟨t', rfl⟩ := ry; exact PySem.EqNone.ne_none_str (fin_bl I q (by simp))
    | _ => exact absurd (show false = true from hs) Bool.false_ne_true
  | bl i =>
    cases rx
    cases y with
    | non => cases ry; exact PySem.EqNone.ne_bool_none (fin_bl I q (by simp))
    | bl j => cases ry; exact ne_bool (fin_bl I q (congrArg not dec_bl))
    | str j => obtain ⟨t', rfl⟩ := ry; exact PySem.EqMixed.ne_bool_str (fin_bl I q (by simp))
    | _ => exact absurd (show false = true from hs) Bool.false_ne_true
  | int i =>
    obtain ⟨t, rfl⟩ := rx
    cases y with
    | non => cases ry; exact PySem.EqNone.ne_int_none (fin_bl I q (by simp))
    | int j => obtain ⟨t', rfl⟩ := ry; exact ne_int (fin_bl I q (congrArg not dec_int))
    | str j => obtain ⟨t', rfl⟩ := ry; exact PySem.EqMixed.ne_int_str (fin_bl I q (by simp))
    | _ => exact absurd (show false = true from hs) Bool.false_ne_true
  | str i =>
    obtain ⟨t, rfl⟩ := rx
    cases y with
    | non => cases ry; exact PySem.EqNone.ne_str_none (fin_bl I q (by simp))
    | bl j => cases ry; exact PySem.EqMixed.ne_str_bool (fin_bl I q (by simp))
    | int j => obtain ⟨t', rfl⟩ := ry; exact PySem.EqMixed.ne_str_int (fin_bl I q (by simp))
    | str j => obtain ⟨t', rfl⟩ := ry; exact ne_str (fin_bl I q (congrArg not dec_str))
    | _ => exact absurd (show false = true from hs) Bool.false_ne_true
  | byt i =>
    obtain ⟨t, rfl⟩ := rx
    cases y with
    | byt j => obtain ⟨t', rfl⟩ := ry; exact PySem.W.ne_bytes (fin_bl I q (congrArg not dec_byt))
    | _ => exact absurd (show false = true from hs) Bool.false_ne_true
  | _ => cases y <;> exact absurd (show false = true from hs) Bool.false_ne_true

theorem op_lt : OpR X (compareOp .Lt) (rI0 fun i j => .bl (decide (i < j))) := opB0 fun _ _ _ _ _ _ _ q => lt_int q
theorem op_le : OpR X (compareOp .LtE) (rI0 fun i j => .bl (decide (i ≤ j))) := opB0 fun _ _ _ _ _ _ _ q => le_int q
theorem op_ge : OpR X (compareOp .GtE) (rI0 fun i j => .bl (decide (j ≤ i))) := opB0 fun _ _ _ _ _ _ _ q => ge_int q
/-- two rules for one operation: by cases -/
theorem OpR.or {f : Value → Value → Sem Value} {r r' : R2} (h : OpR X f r) (h' : OpR X f r') : OpR X f (fun x y H Q => r x y H Q ∨ r' x y H Q) := by
  intro pins s σ H x y v u Q I rx ry q
  rcases q with q | q
  · exact h pins s σ H x y v u Q I rx ry q
  · exact h' pins s σ H x y v u Q I rx ry q

theorem nomark (b : Expr) {op : CmpOp} (h : op ≠ .In := by decide) (h2 : op ≠ .NotIn := by decide) : behindInMarks op b = false := by
  have e1 : (op == CmpOp.In) = false := by cases op <;> first | rfl | exact absurd rfl h
  have e2 : (op == CmpOp.NotIn) = false := by cases op <;> first | rfl | exact absurd rfl h2
  cases b <;> simp [behindInMarks, e1, e2]
/-- a comparison as a value; hm: nomark b, or (for in, not in) by with_unfolding_all rfl -/
theorem pe_cmpR {op : CmpOp} {r : R2} (ho : OpR X (compareOp op) r) (ha : PE X a ta) (hb : PE X b tb) (hm : behindInMarks op b = false) : PE X (.Compare a [op] [b] pos) (tOp r ta tb) := by
  intro pins s σ H Q I h
  exact wpAny_Compare1 (binT ha hb I h fun v u s2 x y H2 I2 rx ry q => ho pins s2 σ H2 x y v u Q I2 rx ry q) hm
/-- a reading of a value as a test -/
def tTest (t : TE) : TT := fun σ H Q => t σ H fun x H' => ∃ k, x = .bl k ∧ Q k H'
theorem pt_cmpR {op : CmpOp} {r : R2} (ho : OpR X (compareOp op) r) (ha : PE X a ta) (hb : PE X b tb) (hm : behindInMarks op b = false) : PT X (.Compare a [op] [b] pos) (tTest (tOp r ta tb)) := by
  intro pins s σ H Q I h
  refine wpAny_isTrue_Compare1 (thn (ha pins s σ H _ I h) fun v s1 ⟨x, H1, I1, r1, q1⟩ => thn (hb pins s1 σ H1 _ I1 q1) fun u s2 ⟨y, H2, I2, r2, q2⟩ =>
    thn (ho pins s2 σ H2 x y v u _ I2 r1 r2 q2) fun c s3 ⟨z, H3, I3, r3, k, e, q3⟩ => ?_) hm
  subst e
  cases r3
  exact wpAny_truthy_bool ⟨H3, I3, q3⟩
/-- a op1 b op2 c -/
def tChain (r r' : R2) (ta tb tc : TE) : TE := fun σ H Q => ta σ H fun x H1 => tb σ H1 fun y H2 => r x y H2 fun z H3 => ∃ k, z = .bl k ∧
  (if k = true then tc σ H3 fun w' H4 => r' y w' H4 Q else Q (.bl false) H3)
/-! ### truth -/
/-- a value's truth by the abstract heap -/
def TruV (K : PySem.W.Frag) (x : V) (H : Hp) (k : Bool) : Prop :=
  match x with
  | .non => k = false
  | .bl b => k = b
  | .int i => k = (i != 0)
  | .str y => y.length ≤ sizeLine ∧ k = ((y.length : Int) != 0)
  | .byt y => y.size ≤ sizeLine ∧ k = ((y.size : Int) != 0)
  | .ref p => (∃ xs, SqL K H p xs ∧ k = !xs.isEmpty) ∨ (∃ xs, SqT K H p xs ∧ k = !xs.isEmpty) ∨ ∃ kvs, H p = some (.dK kvs) ∧ k = !kvs.isEmpty
  | _ => False
theorem isEmpty_kv {κ : Type} {kvs : List (κ × V)} {vs : List (κ × Value)} (r : KV kvs vs) : (!vs.isEmpty) = !kvs.isEmpty := by
  cases r <;> rfl
theorem isEmpty_of {xs : List V} {its : List Value} (r : Vals xs its) : (!its.toArray.isEmpty) = !xs.isEmpty := by
  cases r <;> simp
theorem line63 : (sizeLine : Nat) < 2 ^ 63 := by rw [sizeLine_eq]; decide
theorem tru_ok : TruR X (fun x H Q => ∃ k, TruV X.K x H k ∧ Q k H) := by
  intro pins s σ H x v Q I rx h
  obtain ⟨k, e, q⟩ := h
  have hl := line63
  have hs : sizeLine = 16777216 := sizeLine_eq
  cases x with
  | non =>
    cases rx
    have e' : k = false := e
    subst e'
    exact truthy_none ⟨H, I, q⟩
  | bl b =>
    cases rx
    have e' : k = b := e
    subst e'
    exact wpAny_truthy_bool ⟨H, I, q⟩
  | int i =>
    obtain ⟨t, rfl⟩ := rx
    have e' : k = (i != 0) := e
    subst e'
    exact PySem.P.truthy_int ⟨H, I, q⟩
  | str y =>
    obtain ⟨t, rfl⟩ := rx
    obtain ⟨hy, e'⟩ : y.length ≤ sizeLine ∧ k = ((y.length : Int) != 0) := e
    subst e'
    exact PySem.P.truthy_str (by omega) ⟨H, I.tok _, q⟩
  | byt y =>
    obtain ⟨t, rfl⟩ := rx
    obtain ⟨hy, e'⟩ : y.size ≤ sizeLine ∧ k = ((y.size : Int) != 0) := e
    subst e'
    exact PySem.W.truthy_bytes (by omega) ⟨H, I.tok _, q⟩
  | ref p =>
    cases rx
    have e' : (∃ xs, SqL X.K H p xs ∧ k = !xs.isEmpty) ∨ (∃ xs, SqT X.K H p xs ∧ k = !xs.isEmpty) ∨ ∃ kvs, H p = some (.dK kvs) ∧ k = !kvs.isEmpty := e
    rcases e' with ⟨xs, hx, e'⟩ | ⟨xs, hx, e'⟩ | ⟨kvs, hx, e'⟩
    · subst e'
      obtain ⟨its, r, pl, hz⟩ := I.list hx
      have hlen := r.length
      exact wpAny_truthy_list pl.isList (by simp only [List.size_toArray]; omega) ⟨H, I.tok _, by rw [isEmpty_of r]; exact q⟩
    · subst e'
      obtain ⟨its, r, pl, hz⟩ := I.tuple hx
      have hlen := r.length
      exact truthy_tuple pl (by simp only [List.size_toArray]; omega) ⟨H, I.tok _, by rw [isEmpty_of r]; exact q⟩
    · subst e'
      obtain ⟨hz, hS, vs, r, m⟩ : kvs.length ≤ sizeLine ∧ (p == sysModules) = false ∧ ∃ vs, KV kvs vs ∧ s.heap.DictOf (mixKind X.prog X.w) p vs := I.hok p _ hx
      have hlen : kvs.length = vs.length := Paired.length r
      exact wpAny_truthy_dict hS m (by omega) ⟨H, I.tok _, by rw [isEmpty_kv r]; exact q⟩
  | _ => exact (show False from e).elim
/-- any expression whose test is its value's truth (a name, a call, a subscript, a field ..: he by fun _ => rfl) -/
theorem pt_truth (ha : PE X a ta) (he : ∀ whole, isTrue a X.env whole = (do let v ← whole; standAt a.pos; holding [v] (truthy v))) :
    PT X a (fun σ H Q => ta σ H fun x H' => ∃ k, TruV X.K x H' k ∧ Q k H') := by
  intro pins s σ H Q I h
  exact isTrue_plain (thn (ha pins s σ H _ I h) fun v s1 ⟨x, H1, I1, r1, q1⟩ => tru_ok pins s1 σ H1 x v Q I1 r1 q1) (he _)

/-! ### strs and bytes -/
/-! ### scalar builtins, by CallR -/
theorem vals1 {x : V} {us : List Value} (r : Vals [x] us) : ∃ u, us = [u] ∧ RelV x u := by
  cases r with
  | cons r1 r2 => cases r2; exact ⟨_, rfl, r1⟩
end
end L2

namespace L2
open PySem PySem.Spec PyProof.Rows

/-! ### an instance, its attributes a map -/
structure ObjM (h : Heap) (x dx C : Addr) (mA : Str → Option Value) : Prop where
  obj : h.get? x = some (PySem.W.instObj C dx)
  ns : h.Ns1 dx mA
  ne : dx ≠ x

theorem lookIn_ns {h : Heap} {dx : Addr} {mA : Str → Option Value} (n : h.Ns1 dx mA) : ∃ od, h.get? dx = some od ∧ ∀ name, PySem.W.lookIn name od = some (mA name) := by
  obtain ⟨o, es, ep, ho, hd, hk, _, hm⟩ := n
  refine ⟨o, ho, fun name => ?_⟩
  have e := hm name
  unfold nsFind findBy at e
  rw [← Array.find?_toList] at e
  unfold PySem.W.lookIn
  rw [hd]
  dsimp only
  split
  · rename_i y q
    rw [q] at e
    exact congrArg some e
  · rename_i q
    rw [q] at e
    have a : es.toList.any (·.refKey) = false := by
      rw [List.any_eq_false]
      intro y hy
      obtain ⟨z, t, hkey⟩ := hk y (Array.mem_toList_iff.mp hy)
      simp [DictEntry.refKey, hkey]
    have a' : ¬ es.toList.any (·.refKey) = true := by rw [a]; exact Bool.false_ne_true
    rw [if_neg a']
    exact congrArg some e

theorem ObjM.look {h : Heap} {x dx C : Addr} {mA : Str → Option Value} (I : ObjM h x dx C mA) : ∃ od, PySem.W.InstAt h x (PySem.W.instObj C dx) C (some od) ∧ ∀ name, PySem.W.lookIn name od = some (mA name) :=
  let ⟨od, ho, hl⟩ := lookIn_ns I.ns
  ⟨od, ⟨I.obj, rfl, rfl, ho⟩, hl⟩

section
variable {prog : Program} {w : World} {A : Around} {E : Value → Shared → Prop} {s : Shared} {K : PySem.W.Frag} {x dx C f : Addr} {mA : Str → Option Value} {name : Str} {v : Value}

theorem get_meth {pl : Sem Bool} {Q : Value × List Value → Shared → Prop} (X : K.In s.heap) (I : ObjM s.heap x dx C mA) (hg : PySem.W.plainGet K C name = true)
    (hf : PySem.W.findIn K (.ref C) name = some (some (.ref f))) (ht : PySem.W.isFn K (.ref f) = true) (hv : mA name = none) (h : Q (.ref f, [.ref x]) s) :
    wpAny (model prog w) A (getMethod (.ref x) name pl) Q E s := by
  obtain ⟨od, J, hl⟩ := I.look
  exact PySem.W.method_fn X J (PySem.W.plainGet_of hg).1 (PySem.W.plainGet_of hg).2 hf (beq_iff_eq.mp ht) (by show (PySem.W.lookIn name od).map (·.isSome) = some false; rw [hl, hv]; rfl) h

/-- C(..): the dict at the heap's end, the instance behind it; then its __init__ -/
theorem make_map {R : Result → Shared → Prop} {vs : List Value} {kw : List (Str × Value)} (X : K.In s.heap) (hm : PySem.W.makesIn K C = true)
    (hi : PySem.W.findIn K (.ref C) "__init__" = some (some (.ref f))) (hf : PySem.W.typeIn K (.ref f) = some (.type "function"))
    (h : codeAny (model prog w) (A.under (.builtin "type.__call__" ⟨.ref C :: vs, kw⟩)) (.call (.ref f) ⟨.ref (s.heap.objs.size + 1) :: vs, kw⟩) (PySem.W.InitBack (s.heap.objs.size + 1) R)
      { s with heap := (s.heap.push PySem.W.emptyDict).push (PySem.W.instObj C s.heap.objs.size) }) :
    codeAny (model prog w) A (.call (.ref C) ⟨vs, kw⟩) R s := by
  obtain ⟨hh, g, d, t, os⟩ := s
  exact PySem.W.make_core (PySem.W.makes_of X hm) (PySem.W.looks_findIn X hi) (fun self => PySem.W.bind_fn X self hf) (.inl rfl) h
end

/-! ### the attributes as a list of pairs -/
def putF (f : Str) (v : V) : List (Str × V) → List (Str × V)
  | [] => [(f, v)]
  | (g, x) :: r => if g = f then (g, v) :: r else (g, x) :: putF f v r
theorem RelO.some_of {v : V} {o : Option Value} (r : RelO (some v) o) : ∃ u, o = some u ∧ RelV v u := by
  cases o with
  | none => exact (show False from r).elim
  | some u => exact ⟨u, rfl, r⟩
theorem RelO.none_of {o : Option Value} (r : RelO none o) : o = none := by
  cases o with
  | none => rfl
  | some u => exact (show False from r).elim
section
variable {P : Program} {w : World} {H H' : Hp} {h h' : Heap} {a C dx : Addr} {fs fs' : List (Str × V)}
theorem ins_get (hok : HOk P w H h) (e : H a = some (.ins C dx fs)) : ∃ mA, ObjM h a dx C mA ∧ (∀ f, RelO (fs.lookup f) (mA f)) ∧ PySem.Within mA (fs.map (·.1)) ∧ fs.length ≤ 1000 ∧ H dx = some (.own a) := by
  obtain ⟨d, z, ne, ob, mA, n, r, q⟩ := (show ObjOk P w H h a (.ins C dx fs) from hok a _ e)
  exact ⟨mA, ⟨ob, n, ne⟩, r, q, z, d⟩
end

/-! ### what of the text a class must have -/
structure Cls (K : PySem.W.Frag) (C : Addr) : Prop where
  pg : PySem.W.plainGet K C Str.empty = true
  hd : PySem.W.hasDictIn K C = true
  po : PySem.W.plainOver K C = true
  sa : PySem.W.findIn K (.ref C) "__setattr__" = some (some (.builtin "object.__setattr__"))
theorem Cls.get {K : PySem.W.Frag} {C : Addr} (c : Cls K C) (f : Str) : PySem.W.plainGet K C f = true := c.pg
/-- no class of it has the name -/
def NoAttr (K : PySem.W.Frag) (C : Addr) (f : Str) : Prop := PySem.W.findIn K (.ref C) f = some none
/-- a method: a plain def of the class or of one above it -/
structure Meth (K : PySem.W.Frag) (C : Addr) (m : Str) (f : Addr) : Prop where
  at_ : PySem.W.findIn K (.ref C) m = some (some (.ref f))
  fn : PySem.W.isFn K (.ref f) = true
  kp : PySem.W.keepIn K (.ref f) = true

section
variable {X : Cx} {pins : List (Addr × Obj)} {σ : St} {H : Hp} {s : Shared} {a C dx : Addr} {fs : List (Str × V)} {f : Str} {v : V} {A : Around} {E : Value → Shared → Prop}

theorem getmeth_ok {m : Str} {g : Addr} {pl : Sem Bool} {Q : Value × List Value → Shared → Prop} (I : Inv X pins σ H s) (e : H a = some (.ins C dx fs)) (c : Cls X.K C) (k : Meth X.K C m g) (l : fs.lookup m = none)
    (h : Q (.ref g, [.ref a]) s) : wpAny (model X.prog X.w) A (getMethod (.ref a) m pl) Q E s := by
  obtain ⟨mA, O, r, _, _, _⟩ := ins_get I.hok e
  have hn : mA m = none := RelO.none_of (by rw [← l]; exact r m)
  exact get_meth I.kIn O (c.get m) k.at_ k.fn hn h

/-- a new instance, tracked, without attributes -/
theorem Inv.made (I : Inv X pins σ H s) : Inv X pins σ (upd (upd H s.heap.objs.size (.own (s.heap.objs.size + 1))) (s.heap.objs.size + 1) (.ins C s.heap.objs.size []))
    { s with heap := (s.heap.push PySem.W.emptyDict).push (PySem.W.instObj C s.heap.objs.size) } := by
  have e1 : (s.heap.push PySem.W.emptyDict).get? s.heap.objs.size = some PySem.W.emptyDict := Heap.get?_push_size s.heap rfl
  have e2 : ((s.heap.push PySem.W.emptyDict).push (PySem.W.instObj C s.heap.objs.size)).get? (s.heap.objs.size + 1) = some (PySem.W.instObj C s.heap.objs.size) := by
    have := Heap.get?_push_size (s.heap.push PySem.W.emptyDict) (o := PySem.W.instObj C s.heap.objs.size) rfl
    rwa [Heap.size_push] at this
  have e3 : (s.heap.push PySem.W.emptyDict).Ns s.heap.objs.size (fun _ => none) := ⟨PySem.W.emptyDict, #[], _, e1, rfl, (fun e he => absurd he (by simp)), fun _ => rfl⟩
  have I1 := I.laid (a := s.heap.objs.size) (o := .own (s.heap.objs.size + 1)) (h' := s.heap.push PySem.W.emptyDict) (t' := s.toks) (fun b u q => Heap.get?_push_of_some _ q) (Nat.le_refl _) ⟨_, e1⟩
  refine I1.laid (a := s.heap.objs.size + 1) (o := .ins C s.heap.objs.size []) (t' := s.toks) (fun b u q => Heap.get?_push_of_some _ q) (Nat.le_of_eq (Heap.size_push _ _)) ?_
  have ne : s.heap.objs.size ≠ s.heap.objs.size + 1 := Nat.ne_of_lt (Nat.lt_succ_self _)
  refine ⟨by rw [upd_ne ne, upd_same], Nat.zero_le _, ne, e2, fun _ => none, (Heap.Ns1.of_empty e3).at fun o q => Heap.get?_push_of_some _ q, fun _ => True.intro, fun y hy => absurd rfl hy⟩

end

/-! ### readings and rules -/
/-- e.f, an attribute of the instance -/
def tFld (K : PySem.W.Frag) (ta : TE) (f : Str) : TE := fun σ H Q => ta σ H fun x H1 => ∃ a C dx fs v, x = .ref a ∧ H1 a = some (.ins C dx fs) ∧ Cls K C ∧ NoAttr K C f ∧ fs.lookup f = some v ∧ Q v H1
/-- e.f = value -/
def sFld (K : PySem.W.Frag) (ta tv : TE) (f : Str) : TS := fun D σ H => tv σ H fun y H1 => ta σ H1 fun x H2 => ∃ a C dx fs, x = .ref a ∧ H2 a = some (.ins C dx fs) ∧ Cls K C ∧ NoAttr K C f ∧ fs.length < 1000 ∧
  D.nx σ (upd H2 a (.ins C dx (putF f y fs)))
section
variable {X : Cx} {o e value : Expr} {f : Str} {pos pos' tpos : Pos} {ta tv : TE}
end

/-! ### isinstance -/
section
variable {X : Cx} {pins : List (Addr × Obj)} {σ : St} {H : Hp} {s : Shared} {A : Around} {E : Value → Shared → Prop} {Q : Value → Shared → Prop} {c : Value} {b : Bool}
end
end L2

namespace L2
open PySem PySem.Spec PyProof.Rows

/-! ### room -/
structure Room (k : Nat) (A : Around) : Prop where
  hd : A.handled = none
  dp : A.depth + 3 * k + 5 < recursionLimit
  un : A.units + 16 * k + 200 < cLine
theorem Room.mono {j k : Nat} {A : Around} (r : Room k A) (h : j ≤ k) : Room j A := ⟨r.hd, by have := r.dp; omega, by have := r.un; omega⟩
theorem Room.deeper {k : Nat} {A : Around} (r : Room (k + 1) A) (env : Env) : Room k (A.deeper env) :=
  ⟨r.hd, by have := r.dp; show A.depth + 1 + 3 * k + 5 < _; omega, by have := r.un; show A.units + 3 + 16 * k + 200 < _; omega⟩
theorem make_depth {A : Around} {C : Addr} {us : List Value} {kw : List (Str × Value)} : (A.under (.builtin "type.__call__" ⟨.ref C :: us, kw⟩)).depth = A.depth + 1 := by
  first | rfl | simp [Around.under, Code.weight, Code.isCreation, Code.isGuard, Code.isCaller, Code.frames, Code.isFrame, guardIds]
theorem make_units {A : Around} {C : Addr} {us : List Value} {kw : List (Str × Value)} : (A.under (.builtin "type.__call__" ⟨.ref C :: us, kw⟩)).units = A.units + 1 := by
  first | rfl | simp [Around.under, Code.cUnits, Code.frames, Code.isFrame]
theorem Room.make {k : Nat} {A : Around} (r : Room (k + 1) A) (C : Addr) (us : List Value) (kw : List (Str × Value)) : Room k (A.under (.builtin "type.__call__" ⟨.ref C :: us, kw⟩)) :=
  ⟨r.hd, by have := r.dp; rw [make_depth]; omega, by have := r.un; rw [make_units]; omega⟩
theorem Room.depth {k : Nat} {A : Around} (r : Room k A) : A.depth < recursionLimit := by have := r.dp; omega
theorem Room.units {k : Nat} {A : Around} (r : Room k A) : A.units + 64 < cLine := by have := r.un; omega
/-! ### argument lists and displays -/
def tNil : TA := fun _ H Q => Q [] H
def tCons (ta : TE) (tr : TA) : TA := fun σ H Q => ta σ H fun x H1 => tr σ H1 fun xs H2 => Q (x :: xs) H2
section
variable {X : Cx} {e : Expr} {es : List Expr} {te : TE} {t : TA} {pos : Pos}
theorem pa_nil : PA X [] tNil := fun _ _ _ _ H Q I h => Calls.spliced_nil ⟨[], H, I, .nil, h⟩
theorem pa_cons (ha : PE X e te) (hr : PA X es t) (hs : starEach (e :: es) X.env = (false, eval e X.env) :: starEach es X.env := by rfl) : PA X (e :: es) (tCons te t) := by
  intro pos pins s σ H Q I h
  rw [hs]
  show wpAny _ _ (spliced ((false, eval e X.env) :: backTo pos (starEach es X.env))) _ _ s
  refine Calls.spliced_cons (thn (ha pins s σ H _ I h) fun u s1 ⟨x, H1, I1, r1, q1⟩ => ?_)
  exact thn (hr pos pins s1 σ H1 _ I1 q1) fun us s2 ⟨xs, H2, I2, r2, q2⟩ => ⟨x :: xs, H2, I2, .cons r1 r2, q2⟩

def tLst (t : TA) : TE := fun σ H Q => t σ H fun xs H1 => xs.length ≤ sizeLine ∧ ∀ p, H1 p = none → Q (.ref p) (upd H1 p (.lst xs))
theorem pe_lst (h : PA X es t) : PE X (.List es pos) (tLst t) := by
  intro pins s σ H Q I hq
  refine wpAny_List_spliced (thn (h pos pins s σ H _ I hq) fun us s1 ⟨xs, H1, I1, r, z, q⟩ => ⟨by rw [← r.length]; exact z, ?_⟩)
  have hf : H1 s1.heap.objs.size = none := I1.hok.fresh (Nat.le_refl _)
  refine ⟨.ref s1.heap.objs.size, upd H1 s1.heap.objs.size (.lst xs), I1.laid (t' := s1.toks) (fun b u e => Heap.get?_push_of_some _ e) (Nat.le_refl _) ?_, rfl, q _ hf⟩
  exact ⟨z, us, 0, r, Heap.get?_push_size _ rfl⟩
end

/-! ### what a def promises -/
/-- a def's promise: the bound arguments in the parameters' order, the heap, the wanted end, the wanted exception -/
abbrev Sp := List V → Hp → VK → XK → Prop
/-- how an exception lies behind a call (file 08 gives it): the callers' frames, abstract heap and state ahead of the call, the wish, the exception, the state -/
abbrev CXT := List Env → Hp → Shared → XK → Value → Shared → Prop

/-- the state at a call -/
structure Env0 (P : Program) (w : World) (K : PySem.W.Frag) (mg : Str → Option Value) (base : Heap) (A : Around) (outer : List Env) (s : Shared) (H : Hp) : Prop where
  frames : A.frames = some outer
  mod : Mod K mg base
  bs : ∀ b o, base.get? b = some o → s.heap.get? b = some o ∧ H b = none
  bsz : base.objs.size ≤ s.heap.objs.size
  funs : s.heap.FunFrames base outer
  frf : ∀ b ∈ frs outer, H b = none
  hok : HOk P w H s.heap
  bare : AllBare s.gens
/-- a call's end -/
def CE (outer : List Env) (P : Program) (w : World) (H : Hp) (s : Shared) (Q : VK) (u : Value) (s' : Shared) : Prop :=
  ∃ v H', s'.os = s.os ∧ AllBare s'.gens ∧ Un (frs outer) [] H H' s.heap s'.heap ∧ HOk P w H' s'.heap ∧ RelV v u ∧ Q v H'
def CR (CX : CXT) (outer : List Env) (P : Program) (w : World) (H : Hp) (s : Shared) (Q : VK) (E : XK) (r : Result) (s' : Shared) : Prop :=
  match r with
  | .ok (.ret u) => CE outer P w H s Q u s'
  | .ok _ => False
  | .error e => CX outer H s E e s'
structure FnOk (P : Program) (w : World) (K : PySem.W.Frag) (mg : Str → Option Value) (base : Heap) (CX : CXT) (k : Nat) (f : Addr) (fd : FuncData) (ps : List Str) (sp : Sp) : Prop where
  len : ∀ vs H Q E, sp vs H Q E → vs.length = ps.length
  run : ∀ (A : Around) (outer : List Env) (s : Shared) (H : Hp) (args : Args) (us : List Value) (vs : List V) (Q : VK) (E : XK), Room k A → Env0 P w K mg base A outer s H → BindsTo s fd args (ps.zip us) → Vals vs us → sp vs H Q E →
    codeAny (model P w) A (.call (.ref f) args) (CR CX outer P w H s Q E) s
theorem FnOk.mono {P : Program} {w : World} {K : PySem.W.Frag} {mg : Str → Option Value} {base : Heap} {CX : CXT} {j k : Nat} {f : Addr} {fd : FuncData} {ps : List Str} {sp : Sp} (F : FnOk P w K mg base CX j f fd ps sp) (h : j ≤ k) :
    FnOk P w K mg base CX k f fd ps sp := ⟨F.len, fun A outer s H args us vs Q E hr => F.run A outer s H args us vs Q E (hr.mono h)⟩
theorem Env0.make {P : Program} {w : World} {K : PySem.W.Frag} {mg : Str → Option Value} {base : Heap} {A : Around} {outer : List Env} {s : Shared} {H : Hp} (e : Env0 P w K mg base A outer s H) (C : Addr) (us : List Value) (kw : List (Str × Value)) :
    Env0 P w K mg base (A.under (.builtin "type.__call__" ⟨.ref C :: us, kw⟩)) outer s H := ⟨by first | exact e.frames | (simpa [Around.under, Code.envs, Code.isFrame, pushEnvs] using e.frames), e.mod, e.bs, e.bsz, e.funs, e.frf, e.hok, e.bare⟩
section
variable {X : Cx} {pins : List (Addr × Obj)} {σ : St} {H : Hp} {s s' : Shared}
/-- from a body: what a callee wants -/
theorem Inv.env0 (I : Inv X pins σ H s) : Env0 X.prog X.w X.K X.mg X.base X.A X.stack s H :=
  ⟨I.ok.frames, I.ok.mod, I.bs, Nat.le_trans I.ok.bsz I.sz, I.stack, I.stkFree, I.hok, I.bare⟩
/-- behind a call -/
theorem Inv.after {Q : VK} {u : Value} (I : Inv X pins σ H s) (h : CE X.stack X.prog X.w H s Q u s') : EP X pins σ Q u s' := by
  obtain ⟨v, H', os, bare, un, hok, r, q⟩ := h
  obtain ⟨hh, g, d, t, os'⟩ := s'
  obtain rfl : os' = s.os := os
  exact ⟨v, H', I.call (h' := hh) (g' := g) (d' := d) (t' := t) (ch := []) un hok bare (fun b z => absurd z (by simp)), r, q⟩
end

/-! ### calls -/
/-- f(..): the written arguments, then the defaults dvs; E: what is wanted of an exception -/
def tCall (sp : Sp) (dvs : List V) (E : XK) (t : TA) : TE := fun σ H Q => t σ H fun vs H1 => sp (vs ++ dvs) H1 Q E
/-- o.m(..) of an instance of the class at C -/
def tMeth (C : Addr) (m : Str) (sp : Sp) (dvs : List V) (E : XK) (ta : TE) (t : TA) : TE := fun σ H Q => ta σ H fun x H1 => ∃ a dx fs, x = .ref a ∧ H1 a = some (.ins C dx fs) ∧ fs.lookup m = none ∧
  t σ H1 fun vs H2 => sp (x :: (vs ++ dvs)) H2 Q E
/-- C(..): a new instance and its dict, then __init__ -/
def tMake (C : Addr) (sp : Sp) (dvs : List V) (E : XK) (t : TA) : TE := fun σ H Q => t σ H fun vs H1 => ∀ x dx, H1 x = none → H1 dx = none → dx ≠ x →
  sp (.ref x :: (vs ++ dvs)) (upd (upd H1 dx (.own x)) x (.ins C dx [])) (fun v H2 => v = .non ∧ Q (.ref x) H2) E

/-- how the parameters are bound: us the positional arguments, kw the keywords' values by name, ds the defaults that fill up -/
def Binds (K : PySem.W.Frag) (fd : FuncData) (ps : List Str) (ds : List Value) : Prop :=
  ∀ (s : Shared) (us : List Value), K.In s.heap → (us ++ ds).length = ps.length → BindsTo s fd ⟨us, []⟩ (ps.zip (us ++ ds))
/-- every parameter is given -/
theorem Binds.all {K : PySem.W.Frag} {fd : FuncData} {ps : List Str} (h : ∀ us : List Value, us.length = ps.length → bindArgs fd ⟨us, []⟩ = pure (ps.zip us)) : Binds K fd ps [] := fun s us _ hl => by
  rw [List.append_nil] at hl ⊢
  exact .of_eq (h us hl)

/-- an exception of a callee reaches what this body wants of exceptions -/
def Passes (CX : CXT) (X : Cx) (E : XK) : Prop := ∀ (pins : List (Addr × Obj)) (σ : St) (H : Hp) (s : Shared) (e : Value) (s' : Shared), Inv X pins σ H s → CX X.stack H s E e s' → X.xe e s'

section
variable {X : Cx} {CX : CXT} {k : Nat} {f C : Addr} {fd : FuncData} {ps : List Str} {sp : Sp} {dvs : List V} {ds : List Value} {E : XK} {x m : Str} {p pos apos : Pos} {e o : Expr} {es : List Expr} {ta : TE} {t : TA}

/-- the callee runs -/
theorem run_fn {pins : List (Addr × Obj)} {σ : St} {H : Hp} {s : Shared} {Q : VK} {us : List Value} {vs : List V} (F : FnOk X.prog X.w X.K X.mg X.base CX k f fd ps sp) (hr : Room k X.A) (hb : Binds X.K fd ps ds) (hd : Vals dvs ds) (hx : Passes CX X E)
    (I : Inv X pins σ H s) (r : Vals vs us) (h : sp (vs ++ dvs) H Q E) : wpAny (model X.prog X.w) X.A (call (.ref f) us) (EP X pins σ Q) X.xe s := by
  have r2 : Vals (vs ++ dvs) (us ++ ds) := r.append hd
  have hl : (us ++ ds).length = ps.length := by rw [← r2.length]; exact F.len _ _ _ _ h
  refine wpAny_call (codeAny_mono (F.run X.A X.stack s H ⟨us, []⟩ (us ++ ds) (vs ++ dvs) Q E hr I.env0 (hb s us I.kIn hl) r2 h) fun r s' hq => ?_)
  cases r with
  | error e => exact hx pins σ H s e s' I hq
  | ok fl =>
    cases fl with
    | ret u => exact I.after hq
    | next => exact False.elim hq
    | brk => exact False.elim hq
    | cont => exact False.elim hq

theorem pe_call (F : FnOk X.prog X.w X.K X.mg X.base CX k f fd ps sp) (hr : Room k X.A) (hg : Gl X x) (hm : X.mg x = some (.ref f)) (hk : PySem.W.keepIn X.K (.ref f) = true) (hb : Binds X.K fd ps ds) (hd : Vals dvs ds) (hx : Passes CX X E)
    (ha : PA X (e :: es) t) (hdb : (x == ("__debug__" : Str)) = false := by decide) (he : starEach (e :: es) X.env = (false, eval e X.env) :: starEach es X.env := by rfl) (hpl : (backTo pos (starEach es X.env)).any (·.1) = false := by rfl) :
    PE X (.Call (.Name x p) (e :: es) [] pos) (tCall sp dvs E t) := by
  intro pins s σ H Q I h
  refine wpAny_Call_Name_kw (ld_glob I hg hm ?_ hdb)
  refine PySem.W.callWith_K (h₀ := X.base) I.ok.mod.kin hk (thn (ha pos pins s σ H _ I h) fun us s1 ⟨vs, H1, I1, r, q⟩ => ⟨I1.kIn, ?_⟩) he hpl
  exact run_fn F hr hb hd hx I1 r q
/-- o.m(e, ..) -/
theorem pe_meth {pl : Sem Bool} (he : PE X o ta) (c : Cls X.K C) (hm : Meth X.K C m f) (F : FnOk X.prog X.w X.K X.mg X.base CX k f fd ps sp) (hr : Room k X.A) (hb : Binds X.K fd ps ds) (hd : Vals dvs ds) (hx : Passes CX X E) (ha : PA X (e :: es) t)
    (hst : starEach (e :: es) X.env = (false, eval e X.env) :: starEach es X.env := by rfl) (hpl : (backTo pos (starEach es X.env)).any (·.1) = false := by rfl)
    (ht : eval (.Call (.Attribute o m apos) (e :: es) [] pos) X.env = (do
      let ov ← eval o X.env
      standAt apos.atName
      let (f, first) ← holding [ov] (getMethod ov m pl)
      callWith pos f first (backTo pos (starEach (e :: es) X.env)) (backToKw pos (keywordEach [] X.env))) := by rfl) :
    PE X (.Call (.Attribute o m apos) (e :: es) [] pos) (tMeth C m sp dvs E ta t) := by
  intro pins s σ H Q I h
  refine PySem.W.methodCall_KW (pl := pl) (thn (he pins s σ H _ I h) fun u s1 ⟨x, H1, I1, rx, a, dx, fs, ex, ea, l, q⟩ => ?_) ht
  subst ex
  obtain rfl : u = Value.ref a := rx
  refine getmeth_ok I1 ea c hm l ?_
  refine PySem.W.callWith_K (first := [.ref a]) (h₀ := X.base) I.ok.mod.kin hm.kp (thn (ha pos pins s1 σ H1 _ I1 q) fun us s2 ⟨vs, H2, I2, r, q2⟩ => ⟨I2.kIn, ?_⟩) hst hpl
  exact run_fn (us := .ref a :: us) (vs := .ref a :: vs) F hr hb hd hx I2 (.cons rfl r) q2
/-- o.m() -/
theorem pe_meth0 {pl : Sem Bool} (he : PE X o ta) (c : Cls X.K C) (hm : Meth X.K C m f) (F : FnOk X.prog X.w X.K X.mg X.base CX k f fd ps sp) (hr : Room k X.A) (hb : Binds X.K fd ps ds) (hd : Vals dvs ds) (hx : Passes CX X E)
    (ht : eval (.Call (.Attribute o m apos) [] [] pos) X.env = (do
      let ov ← eval o X.env
      standAt apos.atName
      let (f, first) ← holding [ov] (getMethod ov m pl)
      callWith pos f first (backTo pos (starEach [] X.env)) (backToKw pos (keywordEach [] X.env))) := by rfl) :
    PE X (.Call (.Attribute o m apos) [] [] pos) (tMeth C m sp dvs E ta tNil) := by
  intro pins s σ H Q I h
  refine PySem.W.methodCall_KW (pl := pl) (thn (he pins s σ H _ I h) fun u s1 ⟨x, H1, I1, rx, a, dx, fs, ex, ea, l, q⟩ => ?_) ht
  subst ex
  obtain rfl : u = Value.ref a := rx
  refine getmeth_ok I1 ea c hm l ?_
  exact PySem.W.callWith_K0 (first := [.ref a]) I1.kIn hm.kp (run_fn (us := [.ref a]) (vs := [.ref a]) F hr hb hd hx I1 (.cons rfl .nil) q)

/-- what a class must have to be made -/
structure Mk (K : PySem.W.Frag) (C f : Addr) : Prop where
  makes : PySem.W.makesIn K C = true
  init : PySem.W.findIn K (.ref C) "__init__" = some (some (.ref f))
  fn : PySem.W.isFn K (.ref f) = true
  kp : PySem.W.keepIn K (.ref C) = true

theorem run_make {pins : List (Addr × Obj)} {σ : St} {H : Hp} {s : Shared} {Q : VK} {us : List Value} {vs : List V} (M : Mk X.K C f) (F : FnOk X.prog X.w X.K X.mg X.base CX k f fd ps sp) (hr : Room (k + 1) X.A) (hb : Binds X.K fd ps ds) (hd : Vals dvs ds)
    (hx : Passes CX X E) (I : Inv X pins σ H s) (r : Vals vs us)
    (h : ∀ x dx, H x = none → H dx = none → dx ≠ x → sp (.ref x :: (vs ++ dvs)) (upd (upd H dx (.own x)) x (.ins C dx [])) (fun v H2 => v = .non ∧ Q (.ref x) H2) E) :
    wpAny (model X.prog X.w) X.A (call (.ref C) us) (EP X pins σ Q) X.xe s := by
  have hq := h (s.heap.objs.size + 1) s.heap.objs.size (I.hok.fresh (Nat.le_succ _)) (I.hok.fresh (Nat.le_refl _)) (Nat.ne_of_lt (Nat.lt_succ_self _))
  have I2 := Inv.made (C := C) I
  have r2 : Vals (V.ref (s.heap.objs.size + 1) :: (vs ++ dvs)) (Value.ref (s.heap.objs.size + 1) :: (us ++ ds)) := .cons rfl (r.append hd)
  have hl : (Value.ref (s.heap.objs.size + 1) :: us ++ ds).length = ps.length := by
    have e := r2.length
    rw [F.len _ _ _ _ hq] at e
    exact e.symm
  refine wpAny_call (make_map (f := f) I.kIn M.makes M.init (beq_iff_eq.mp M.fn) (codeAny_mono (F.run _ X.stack _ _ ⟨Value.ref (s.heap.objs.size + 1) :: us, []⟩ (Value.ref (s.heap.objs.size + 1) :: (us ++ ds)) _ _ E (hr.make C us [])
    (I2.env0.make C us []) (hb _ (Value.ref (s.heap.objs.size + 1) :: us) I2.kIn hl) r2 hq) fun r s' hq' => ?_))
  cases r with
  | error e => exact hx pins σ _ _ e s' I2 hq'
  | ok fl =>
    cases fl with
    | ret u =>
      obtain ⟨v, H', I3, rv, ev, q3⟩ := I2.after hq'
      subst ev
      exact ⟨rv, ⟨V.ref (s.heap.objs.size + 1), H', I3, rfl, q3⟩⟩
    | next => exact False.elim hq'
    | brk => exact False.elim hq'
    | cont => exact False.elim hq'
theorem pe_make (M : Mk X.K C f) (F : FnOk X.prog X.w X.K X.mg X.base CX k f fd ps sp) (hr : Room (k + 1) X.A) (hg : Gl X x) (hm : X.mg x = some (.ref C)) (hb : Binds X.K fd ps ds) (hd : Vals dvs ds) (hx : Passes CX X E)
    (ha : PA X (e :: es) t) (hdb : (x == ("__debug__" : Str)) = false := by decide) (he : starEach (e :: es) X.env = (false, eval e X.env) :: starEach es X.env := by rfl) (hpl : (backTo pos (starEach es X.env)).any (·.1) = false := by rfl) :
    PE X (.Call (.Name x p) (e :: es) [] pos) (tMake C sp dvs E t) := by
  intro pins s σ H Q I h
  refine wpAny_Call_Name_kw (ld_glob I hg hm ?_ hdb)
  refine PySem.W.callWith_K (h₀ := X.base) I.ok.mod.kin M.kp (thn (ha pos pins s σ H _ I h) fun us s1 ⟨vs, H1, I1, r, q⟩ => ⟨I1.kIn, ?_⟩) he hpl
  exact run_make M F hr hb hd hx I1 r q
theorem pe_make0 (M : Mk X.K C f) (F : FnOk X.prog X.w X.K X.mg X.base CX k f fd ps sp) (hr : Room (k + 1) X.A) (hg : Gl X x) (hm : X.mg x = some (.ref C)) (hb : Binds X.K fd ps ds) (hd : Vals dvs ds) (hx : Passes CX X E)
    (hdb : (x == ("__debug__" : Str)) = false := by decide) : PE X (.Call (.Name x p) [] [] pos) (tMake C sp dvs E tNil) := by
  intro pins s σ H Q I h
  refine wpAny_Call_Name_kw (ld_glob I hg hm ?_ hdb)
  exact PySem.W.callWith_K0 I.kIn M.kp (run_make (us := []) M F hr hb hd hx I .nil h)
end

/-! ### keywords -/
section
variable {X : Cx} {CX : CXT} {k : Nat} {f C : Addr} {fd : FuncData} {ps ks : List Str} {sp : Sp} {E : XK} {x m : Str} {p pos apos kpos : Pos} {e o : Expr} {es : List Expr} {kws : List Keyword} {te ta : TE} {t tk : TA} {nm : Option Str}
variable {g : List Value → List Value → List Value} {gV : List V → List V → List V}
end

/-! ### a def's body keeps its promise -/
/-- names: the parameters first -/
structure FnScope (N P : List Str) (sc : Scope) : Prop where
  kind : sc.kind = .function
  co : sc.isCoroutine = false
  gen : sc.isGenerator = false
  nd : N.Nodup
  pre : N.take P.length = P
  par : ∀ x ∈ P, sc.names.lookup x = some .local ∨ sc.names.lookup x = some .cell
  nofree : ∀ y ∈ sc.names, y.2 ≠ .free

theorem bindL_out {kindOf : Str → Option NameKind} {x : Str} : ∀ {binds : List (Str × Value)} {m : Str → Option Value}, (∀ v, (x, v) ∉ binds) → bindL kindOf binds m x = m x
  | [], _, _ => rfl
  | (n, v) :: r, m, h => by
    unfold bindL
    rw [bindL_out fun w hw => h w (List.mem_cons_of_mem _ hw)]
    split
    · have : x ≠ n := by rintro rfl; exact h v List.mem_cons_self
      simp [this]
    · rfl
theorem bindC_out {kindOf : Str → Option NameKind} {x : Str} : ∀ {binds : List (Str × Value)} {m : Str → Option Value}, (∀ v, (x, v) ∉ binds) → bindC kindOf binds m x = m x
  | [], _, _ => rfl
  | (n, v) :: r, m, h => by
    unfold bindC
    rw [bindC_out fun w hw => h w (List.mem_cons_of_mem _ hw)]
    split
    · rfl
    · have : x ≠ n := by rintro rfl; exact h v List.mem_cons_self
      simp [this]
theorem bindL_get {kindOf : Str → Option NameKind} {x : Str} {v : Value} : ∀ {P : List Str} {vs : List Value} {i : Nat} {m : Str → Option Value}, P.Nodup → P[i]? = some x → vs[i]? = some v → kindOf x = some .local →
    bindL kindOf (P.zip vs) m x = some v
  | [], _, _, _, _, h, _, _ => by simp at h
  | _ :: _, [], _, _, _, _, h, _ => by simp at h
  | p :: P, w :: vs, 0, m, nd, h1, h2, hk => by
    simp at h1 h2; subst h1; subst h2
    show bindL kindOf ((p, w) :: P.zip vs) m p = _
    unfold bindL
    rw [bindL_out fun v hv => (List.nodup_cons.mp nd).1 (List.of_mem_zip hv).1, if_pos hk]
    simp
  | p :: P, w :: vs, i + 1, m, nd, h1, h2, hk => by
    show bindL kindOf ((p, w) :: P.zip vs) m x = _
    unfold bindL
    exact bindL_get (i := i) (List.nodup_cons.mp nd).2 (by simpa using h1) (by simpa using h2) hk
theorem bindC_get {kindOf : Str → Option NameKind} {x : Str} {v : Value} : ∀ {P : List Str} {vs : List Value} {i : Nat} {m : Str → Option Value}, P.Nodup → P[i]? = some x → vs[i]? = some v → kindOf x ≠ some .local →
    bindC kindOf (P.zip vs) m x = some v
  | [], _, _, _, _, h, _, _ => by simp at h
  | _ :: _, [], _, _, _, _, h, _ => by simp at h
  | p :: P, w :: vs, 0, m, nd, h1, h2, hk => by
    simp at h1 h2; subst h1; subst h2
    show bindC kindOf ((p, w) :: P.zip vs) m p = _
    unfold bindC
    rw [bindC_out fun v hv => (List.nodup_cons.mp nd).1 (List.of_mem_zip hv).1, if_neg hk]
    simp
  | p :: P, w :: vs, i + 1, m, nd, h1, h2, hk => by
    show bindC kindOf ((p, w) :: P.zip vs) m x = _
    unfold bindC
    exact bindC_get (i := i) (List.nodup_cons.mp nd).2 (by simpa using h1) (by simpa using h2) hk

/-- the names' values at the entry -/
def start (N : List Str) (vs : List V) : St := vs.map some ++ List.replicate (N.length - vs.length) none

/-- the context of a def's body, at its entry; an exception leaves the frame, then lies as CX says -/
def cxOf (CX : CXT) (P : Program) (w : World) (K : PySem.W.Frag) (mg : Str → Option Value) (base : Heap) (N : List Str) (qual : Str) (scope : Scope) (f : Addr) (cd : Value) (A : Around) (outer : List Env) (s : Shared) (H : Hp) (E : XK) : Cx where
  prog := P
  w := w
  K := K
  mg := mg
  base := base
  A := A.deeper (envOfC qual scope s.heap.objs.size f cd)
  N := N
  s_0 := s
  H_0 := H
  env := envOfC qual scope s.heap.objs.size f cd
  outer := outer
  stack := envOfC qual scope s.heap.objs.size f cd :: outer
  ex := []
  calm := true
  fn := fun _ => true
  pn := []
  xe := fun e s' => wpAny (model P w) (A.deeper (envOfC qual scope s.heap.objs.size f cd)) (leaving (envOfC qual scope s.heap.objs.size f cd) e) (fun _ s'' => CX outer H s E e s'') (fun e' s'' => CX outer H s E e' s'') s'

theorem cell_has {sc : Scope} {n : Nat} {x : Str} (h : sc.names.lookup x = some .cell) : ∃ c, (cellsFrom n sc.names []).lookup x = some c := by
  have q := PySem.W.cellsFrom_some sc.names n [] (.inl h)
  exact Option.isSome_iff_exists.mp q

theorem inv_start {CX : CXT} {P : Program} {w : World} {K : PySem.W.Frag} {mg : Str → Option Value} {base : Heap} {N ps : List Str} {qual : Str} {scope : Scope} {f : Addr} {cd : Value} {A : Around} {outer : List Env} {s s1 : Shared} {H : Hp} {E : XK} {us : List Value} {vs : List V}
    (S : FnScope N ps scope) (hd : A.handled = none) (e0 : Env0 P w K mg base A outer s H) (hl : vs.length = ps.length) (r : Vals vs us)
    (x : InCallC s s.heap.objs.size (bindL (envOfC qual scope s.heap.objs.size f cd).kindOf (ps.zip us) fun _ => none) (cellsFrom (s.heap.objs.size + 1) scope.names []) (bindC (envOfC qual scope s.heap.objs.size f cd).kindOf (ps.zip us) fun _ => none) s1) :
    Inv (cxOf CX P w K mg base N qual scope f cd A outer s H E) [] (start N vs) H s1 := by
  have hpl : ps.length ≤ N.length := by have := congrArg List.length S.pre; rw [List.length_take] at this; omega
  obtain ⟨h1, tk, rfl, hk⟩ := x.done
  have noA : ∀ b : Addr, b ∉ (cxOf CX P w K mg base N qual scope f cd A outer s H E).ex := fun b z => absurd (show b ∈ ([] : List Addr) from z) (by simp)
  refine ⟨⟨e0.mod, S.kind, rfl, rfl, Nat.le_refl _, fun y z c h1 h2 => ?_, fun y hy => ?_, fun y c _ h => ?_, fun _ => hd, Around.frames_deeper e0.frames, .inr ⟨rfl, rfl⟩, fun b z => absurd z (noA b), e0.bs, e0.bsz, fun b _ _ => noA b, fun b z => absurd z (noA b), e0.funs, e0.frf⟩,
    rfl, e0.bare, Un.kept hk, ⟨_, x.toInCall.ns, fun i y v h1 h2 h3 => ?_⟩, fun y c h => ⟨_, x.cell y c h⟩, e0.hok.fresh (Nat.le_refl _), fun y c h => ?_, fun p hp => absurd (show p ∈ ([] : List (Addr × Obj)) from hp) (by simp), e0.hok.kept hk, ?_⟩
  · exact name_of_addr x.apart (PySem.mem_of_lookup h1) (PySem.mem_of_lookup h2)
  · have hy : scope.names.lookup y = some .cell ∨ scope.names.lookup y = some .free := hy
    rcases hy with hy | hy
    · exact cell_has hy
    · exact absurd rfl (S.nofree _ (PySem.mem_of_lookup hy))
  · exact Nat.le_of_lt (x.above y c (PySem.mem_of_lookup h))
  · have hi : i < vs.length := by
      unfold start at h2
      by_cases hi : i < vs.length
      · exact hi
      · rw [List.getElem?_append_right (by simpa using hi)] at h2
        rw [List.getElem?_replicate] at h2
        split at h2 <;> cases h2
    have ha : vs[i]? = some v := by
      unfold start at h2
      rw [List.getElem?_append_left (by simpa using hi), List.getElem?_map] at h2
      cases e : vs[i]? with
      | none => rw [e] at h2; cases h2
      | some a => rw [e] at h2; cases h2; rfl
    obtain ⟨u, hu, rv⟩ := r.get ha
    have hp : ps[i]? = some y := by
      rw [← S.pre, List.getElem?_take_of_lt (by omega)]; exact h1
    have ndP : ps.Nodup := by rw [← S.pre]; exact S.nd.sublist (List.take_sublist _ _)
    refine ⟨u, rv, ?_⟩
    rcases S.par y (List.mem_of_getElem? hp) with k | k
    · exact .inl ⟨k, bindL_get ndP hp hu k⟩
    · obtain ⟨c, e⟩ := cell_has (n := s.heap.objs.size + 1) k
      refine .inr ⟨.inl k, c, e, ?_⟩
      have q := x.cell y c e
      rw [bindC_get ndP hp hu (by show scope.names.lookup y ≠ _; rw [k]; decide)] at q
      exact q
  · exact e0.hok.fresh (Nat.le_of_lt (x.above y c (PySem.mem_of_lookup h)))
  · unfold start
    show _ = N.length
    rw [List.length_append, List.length_map, List.length_replicate]
    omega

/-- THE RULE: a def (or a method) of the text, by its body. The body's reading t is chosen for each entry; it is run at the parameters' values -/
theorem fn_of {CX : CXT} {P : Program} {w : World} {K : PySem.W.Frag} {mg : Str → Option Value} {base : Heap} {k : Nat} {f : Addr} {name qual : Str} {params : Arguments} {body : List Stmt} {scope : Scope} {dV kV doc pm cdv ct oc : Value} {an od : Option Addr}
    {osl : Array (Option Value)} {N ps : List Str} {sp : Sp} (lk : K.lookup f = some ⟨oc, od, .func (PySem.W.fnOf name qual params body scope dV kV doc pm an cdv ct), osl⟩) (hcd : PySem.W.codeIn K cdv qual = true) (S : FnScope N ps scope)
    (len : ∀ vs H Q E, sp vs H Q E → vs.length = ps.length)
    (hbody : ∀ (A : Around) (outer : List Env) (s : Shared) (H : Hp) (vs : List V) (Q : VK) (E : XK), Room k (A.deeper (envOfC qual scope s.heap.objs.size f cdv)) → sp vs H Q E →
      ∃ t, PSs (cxOf CX P w K mg base N qual scope f cdv A outer s H E) body t ∧ t { nx := fun _ H' => Q .non H', rt := Q } (start N vs) H) :
    FnOk P w K mg base CX (k + 1) f (PySem.W.fnOf name qual params body scope dV kV doc pm an cdv ct) ps sp := by
  refine ⟨len, fun A outer s H args us vs Q E hr e0 hb r hsp => ?_⟩
  have hl := len _ _ _ _ hsp
  have KX : K.In s.heap := e0.mod.kin.keeps fun b o e => (e0.bs b o e).1
  have lim : s.heap.NoLimit := e0.mod.nolimit.keeps fun b o e => (e0.bs b o e).1
  have hkind : ∀ y ∈ ps.zip us, scope.names.lookup y.1 = some .local ∨ (scope.names.lookup y.1 = some .cell ∧ ((cellsFrom (s.heap.objs.size + 1) scope.names []).lookup y.1).isSome = true) := fun ⟨n, v⟩ hy => by
    rcases S.par n (List.of_mem_zip hy).1 with q | q
    · exact .inl q
    · exact .inr ⟨q, PySem.W.cellsFrom_some _ _ _ (.inl q)⟩
  refine codeAny_call_function hr.depth (KX _ _ lk) rfl S.co S.gen rfl (PySem.W.codeRec_of KX hcd) (hb _ _ _ _ ?_)
  refine wpAny_newFunctionEnv_cells S.kind hkind fun env he s1 x => ?_
  subst he
  refine ⟨lim.keeps x.toInCall.keep, codeAny_func ?_⟩
  obtain ⟨t, ht, hq⟩ := hbody A outer s H vs Q E (hr.deeper _) hsp
  have I : Inv (cxOf CX P w K mg base N qual scope f cdv A outer s H E) [] (start N vs) H s1 := inv_start S hr.hd e0 hl r x
  refine wpAny_mono (ht [] s1 (start N vs) H _ I hq) (fun fl s' hs => ?_) fun e s' hs => hs
  have fin : ∀ {σ' : St} {H' : Hp} {v : V} {u : Value}, Inv (cxOf CX P w K mg base N qual scope f cdv A outer s H E) [] σ' H' s' → RelV v u → Q v H' → CE outer P w H s Q u s' :=
    fun {σ' H' v u} J rv q => ⟨v, H', J.os, J.bare, J.base, J.hok, rv, q⟩
  cases fl with
  | ret u =>
    obtain ⟨v, σ', H', J, rv, q⟩ := hs
    exact fin J rv q
  | next =>
    obtain ⟨σ', H', J, q⟩ := hs
    exact fin (v := V.non) (u := Value.none) J rfl q
  | brk =>
    obtain ⟨_, _, _, q⟩ := hs
    exact False.elim q
  | cont =>
    obtain ⟨_, _, _, q⟩ := hs
    exact False.elim q
end L2

namespace L2
open PySem PySem.Spec PyProof.Rows
section
variable {X : Cx} {x : Str} {p pos : Pos} {e : Expr} {es : List Expr} {t : TA} {id T : String} {r : List V → Hp → VK → Prop}

def tCB (r : List V → Hp → VK → Prop) (t : TA) : TE := fun σ H Q => t σ H fun vs H1 => r vs H1 Q
/-- f(e, ..), f a built-in function -/
theorem pe_callB (hc : CallR X (.builtin id) r) (hg : Gl X x) (hm : X.mg x = none) (hv : bootBuiltins x = some (.builtin id)) (ha : PA X (e :: es) t) (hn : x ≠ "__name__" := by decide) (hdb : (x == ("__debug__" : Str)) = false := by decide)
    (he : starEach (e :: es) X.env = (false, eval e X.env) :: starEach es X.env := by rfl) (hpl : (backTo pos (starEach es X.env)).any (·.1) = false := by rfl) : PE X (.Call (.Name x p) (e :: es) [] pos) (tCB r t) := by
  intro pins s σ H Q I h
  refine wpAny_Call_Name_kw (ld_blt I hg hm hv ?_ hn hdb)
  exact PyProof.Rows.callWith_builtin1 (thn (ha pos pins s σ H _ I h) fun us s1 ⟨vs, H1, I1, r1, q1⟩ => hc pins s1 σ H1 vs us Q I1 r1 q1) he hpl
/-- T(e, ..), T a built-in type -/
theorem pe_callTy (hc : CallR X (.type T) r) (hg : Gl X x) (hm : X.mg x = none) (hv : bootBuiltins x = some (.type T)) (ha : PA X (e :: es) t) (hn : x ≠ "__name__" := by decide) (hdb : (x == ("__debug__" : Str)) = false := by decide)
    (he : starEach (e :: es) X.env = (false, eval e X.env) :: starEach es X.env := by rfl) (hpl : (backTo pos (starEach es X.env)).any (·.1) = false := by rfl) : PE X (.Call (.Name x p) (e :: es) [] pos) (tCB r t) := by
  intro pins s σ H Q I h
  refine wpAny_Call_Name_kw (ld_blt I hg hm hv ?_ hn hdb)
  exact PyProof.Rows.callWith_type1 (thn (ha pos pins s σ H _ I h) fun us s1 ⟨vs, H1, I1, r1, q1⟩ => hc pins s1 σ H1 vs us Q I1 r1 q1) he hpl
end
end L2

namespace HT
open PySem PyProof.Rows

section
open PySem.SeqAt
open PySem.AutoSeq1 (wpAny_loadPart')
open PySem.MeetsSeq PySem.MeetsSeq2 PySem.MeetsSeq3

end

section
variable {prog : Program} {w : World} {A : Around} {E : Value → Shared → Prop} {s : Shared}

/-! ### t[a:b], not the whole -/
/-- a slice's bound as a place among n (d where it is left out) -/
def sIx (n d : Nat) : Option Int → Nat
  | none => d
  | some v => if v < 0 then (v + (n : Int)).toNat else min v.toNat n
theorem sIx_none (n d : Nat) : sIx n d none = d := rfl
end
end HT

namespace L2
open PySem PySem.Spec PyProof.Rows

/-! ### the parts of a slice -/
abbrev TO := St → Hp → (Option Int → Hp → Prop) → Prop
/-- a slice's part (left out, or an int) -/
def PO (X : Cx) (e : Option Expr) (t : TO) : Prop :=
  ∀ (pins : List (Addr × Obj)) (s : Shared) (σ : St) (H : Hp) (Q : Option Int → Hp → Prop), Inv X pins σ H s → t σ H Q →
    wpAny (model X.prog X.w) X.A (evalPart e X.env) (fun u s' => ∃ o H', Inv X pins σ H' s' ∧ IsPart u o ∧ Q o H') X.xe s
def tNoPart : TO := fun _ H Q => Q none H
def tPart (t : TE) : TO := fun σ H Q => t σ H fun x H1 => ∃ i, x = .int i ∧ Q (some i) H1

section
variable {X : Cx} {e : Expr} {te : TE} {lo hi : Option Expr} {tl th : TO} {pos p2 : Pos}

theorem po_none : PO X none tNoPart := by
  intro pins s σ H Q I h
  rw [evalPart_none]
  exact wpAny_pure ⟨none, H, I, .none, h⟩
theorem po_some (h : PE X e te) : PO X (some e) (tPart te) := by
  intro pins s σ H Q I hw
  rw [evalPart_some]
  refine thn (h pins s σ H _ I hw) fun u s1 ⟨x, H1, I1, r1, q1⟩ => ?_
  obtain ⟨i, rfl, q⟩ := q1
  obtain ⟨t, rfl⟩ := r1
  exact ⟨some i, H1, I1, .int i t, q⟩

/-- what a slice of a value is, by values: the slice object stands at sl -/
def SlR (X : Cx) (r : V → Option Int → Option Int → Hp → VK → Prop) : Prop :=
  ∀ (pins : List (Addr × Obj)) (s : Shared) (σ : St) (H : Hp) (x : V) (v vl vu : Value) (lo hi : Option Int) (sl : Addr) (Q : VK), Inv X pins σ H s → RelV x v → s.heap.IsSliceOf sl vl vu .none → IsPart vl lo → IsPart vu hi → r x lo hi H Q →
    ∃ T id, typeLookup (.type T) "__getitem__" = pure (some (.builtin id)) ∧ s.TypeIs v T ∧ wpAny (model X.prog X.w) X.A (getItem v (.ref sl)) (EP X pins σ Q) X.xe s
theorem SlR.or {r r' : V → Option Int → Option Int → Hp → VK → Prop} (h : SlR X r) (h' : SlR X r') : SlR X (fun x lo hi H Q => r x lo hi H Q ∨ r' x lo hi H Q) := by
  intro pins s σ H x v vl vu lo hi sl Q I rx hs pl pu q
  rcases q with q | q
  · exact h pins s σ H x v vl vu lo hi sl Q I rx hs pl pu q
  · exact h' pins s σ H x v vl vu lo hi sl Q I rx hs pl pu q
def tSl (r : V → Option Int → Option Int → Hp → VK → Prop) (te : TE) (tl th : TO) : TE := fun σ H Q => te σ H fun x H1 => tl σ H1 fun l H2 => th σ H2 fun u H3 => r x l u H3 Q
/-- a[lo:hi], any a -/
theorem pe_slice {r : V → Option Int → Option Int → Hp → VK → Prop} (hr : SlR X r) (he : PE X e te) (hl : PO X lo tl) (hu : PO X hi th) : PE X (.Subscript e (.Slice lo hi none p2) pos) (tSl r te tl th) := by
  intro pins s σ H Q I h
  refine Subscript_ (thn (he pins s σ H _ I h) fun v s1 ⟨x, H1, I1, r1, q1⟩ => ?_)
  refine wpAny_Slice (thn (hl pins s1 σ H1 _ I1 q1) fun vl s2 ⟨l, H2, I2, pl, q2⟩ => thn (hu pins s2 σ H2 _ I2 q2) fun vu s3 ⟨u, H3, I3, pu, q3⟩ => ?_)
  rw [evalPart_none]
  refine wpAny_pure ?_
  have I4 : Inv X pins σ H3 { s3 with heap := s3.heap.push { cls := .type "slice", data := .fields #[vl, vu, .none] } } := I3.kept (t' := s3.toks) fun b ob q => Heap.get?_push_of_some _ q
  obtain ⟨T, id, hT, ht, hg⟩ := hr pins { s3 with heap := s3.heap.push { cls := .type "slice", data := .fields #[vl, vu, .none] } } σ H3 x v vl vu l u s3.heap.objs.size Q I4 r1 (Heap.IsSliceOf.new ..) pl pu q3
  show wpAny (model X.prog X.w) X.A (subscriptTail e (.Slice lo hi none p2) v (.ref s3.heap.objs.size)) (EP X pins σ Q) X.xe { s3 with heap := s3.heap.push { cls := .type "slice", data := .fields #[vl, vu, .none] } }
  exact tail_any (ops := [.ref s3.heap.objs.size, v]) ht hT hg (by with_unfolding_all rfl)

/-- the items of xs[lo:hi] -/
def cutV (xs : List V) (lo hi : Option Int) : List V := (xs.drop (HT.sIx xs.length 0 lo)).take (HT.sIx xs.length xs.length hi - HT.sIx xs.length 0 lo)
theorem cutV_length (xs : List V) (lo hi : Option Int) : (cutV xs lo hi).length ≤ xs.length := by
  unfold cutV
  rw [List.length_take, List.length_drop]
  omega
/-! ### t < u, t + u -/
end
end L2

namespace L2
open PySem PySem.Spec PyProof.Rows

/-! ### places -/
/-- the place that an index of any sign means -/
def ixN (n : Nat) (i : Int) : Option Nat := if 0 ≤ i then (if i < n then some i.toNat else none) else if -(n : Int) ≤ i then some (i + n).toNat else none
def atI {α : Type} (xs : List α) (i : Int) : Option α := (ixN xs.length i).bind fun j => xs[j]?
theorem ixN_seq {n : Nat} {i : Int} {j : Nat} (h : ixN n i = some j) : seqIndex? i n = some j ∧ j < n ∧ -(n : Int) ≤ i ∧ i < n := by
  unfold ixN at h
  by_cases h0 : 0 ≤ i
  · rw [if_pos h0] at h
    by_cases h1 : i < n
    · rw [if_pos h1] at h
      have e : i.toNat = j := Option.some.inj h
      exact ⟨by rw [seqIndex_of h0 h1, e], by omega, by omega, h1⟩
    · rw [if_neg h1] at h; cases h
  · rw [if_neg h0] at h
    by_cases h1 : -(n : Int) ≤ i
    · rw [if_pos h1] at h
      have e : (i + n).toNat = j := Option.some.inj h
      exact ⟨by rw [seqIndex_neg (by omega) h1, e], by omega, h1, by omega⟩
    · rw [if_neg h1] at h; cases h
theorem atI_get {α : Type} {xs : List α} {i : Int} {v : α} (h : atI xs i = some v) : ∃ j, seqIndex? i xs.length = some j ∧ xs[j]? = some v ∧ j < xs.length ∧ -(xs.length : Int) ≤ i ∧ i < xs.length := by
  unfold atI at h
  cases e : ixN xs.length i with
  | none => rw [e] at h; cases h
  | some j =>
    rw [e] at h
    obtain ⟨h1, h2, h3, h4⟩ := ixN_seq e
    exact ⟨j, h1, h, h2, h3, h4⟩
theorem atI_nat {α : Type} {xs : List α} {j : Nat} {v : α} (h : xs[j]? = some v) : atI xs (j : Int) = some v := by
  have hj : j < xs.length := (List.getElem?_eq_some_iff.mp h).1
  have e : ixN xs.length (j : Int) = some j := by
    unfold ixN
    rw [if_pos (by omega), if_pos (by omega)]; simp
  unfold atI; rw [e]; exact h
/-! ### what may be subscripted -/
/-- what stands as an index of a plain subscript -/
def PlainIx (b : Expr) : Prop := ∀ o i, subscripted b false o i = operate [o, i] (getItem o i)
/-- a subscript by values -/
def IxR (X : Cx) (r : R2) : Prop :=
  ∀ (value slice : Expr) (pins : List (Addr × Obj)) (s : Shared) (σ : St) (H : Hp) (x y : V) (v u : Value) (Q : VK), Inv X pins σ H s → RelV x v → RelV y u → r x y H Q →
    subscripted slice false v u = operate [v, u] (getItem v u) → wpAny (model X.prog X.w) X.A (subscriptTail value slice v u) (EP X pins σ Q) X.xe s
/-- a call of a builtin's method by values: the receiver, the arguments -/
def MtR (X : Cx) (id : String) (r : V → List V → Hp → VK → Prop) : Prop :=
  ∀ (pins : List (Addr × Obj)) (s : Shared) (σ : St) (H : Hp) (x : V) (xs : List V) (v : Value) (us : List Value) (Q : VK), Inv X pins σ H s → RelV x v → Vals xs us → r x xs H Q →
    wpAny (model X.prog X.w) X.A (call (.builtin id) (v :: us)) (EP X pins σ Q) X.xe s
section
variable {X : Cx} {a b : Expr} {ta tb : TE} {pos : Pos}
theorem IxR.or {r r' : R2} (h : IxR X r) (h' : IxR X r') : IxR X (fun x y H Q => r x y H Q ∨ r' x y H Q) := by
  intro value slice pins s σ H x y v u Q I rx ry q hs
  rcases q with q | q
  · exact h value slice pins s σ H x y v u Q I rx ry q hs
  · exact h' value slice pins s σ H x y v u Q I rx ry q hs
theorem MtR.or {id : String} {r r' : V → List V → Hp → VK → Prop} (h : MtR X id r) (h' : MtR X id r') : MtR X id (fun x xs H Q => r x xs H Q ∨ r' x xs H Q) := by
  intro pins s σ H x xs v us Q I rx rs q
  rcases q with q | q
  · exact h pins s σ H x xs v us Q I rx rs q
  · exact h' pins s σ H x xs v us Q I rx rs q
/-- a[b] -/
theorem pe_ix {r : R2} (hr : IxR X r) (ha : PE X a ta) (hb : PE X b tb) (hs : PlainIx b) : PE X (.Subscript a b pos) (tOp r ta tb) := by
  intro pins s σ H Q I h
  exact Subscript_ (binT ha hb I h fun v u s2 x y H2 I2 rx ry q => hr a b pins s2 σ H2 x y v u Q I2 rx ry q (hs _ _))

def rIxL (K : PySem.W.Frag) : R2 := fun x y H Q => ∃ p xs i v, x = .ref p ∧ y = .int i ∧ SqL K H p xs ∧ atI xs i = some v ∧ Q v H
def rIxT (K : PySem.W.Frag) : R2 := fun x y H Q => ∃ p xs i v, x = .ref p ∧ y = .int i ∧ SqT K H p xs ∧ atI xs i = some v ∧ Q v H
theorem ix_list : IxR X (rIxL X.K) := by
  intro value slice pins s σ H x y v u Q I rx ry h hs
  obtain ⟨p, xs, i, z, rfl, rfl, hq, he, q⟩ := h
  cases rx
  obtain ⟨t, rfl⟩ := ry
  obtain ⟨its, r, pl, hz⟩ := I.list hq
  obtain ⟨j, h1, h2, h3, h4, h5⟩ := atI_get he
  obtain ⟨w, ew, rw'⟩ := r.get h2
  have hl := r.length
  have hn := line63
  have fin : EP X pins σ Q w s := ⟨z, H, I, rw', q⟩
  by_cases h0 : 0 ≤ i
  · have hj : i.toNat = j := by
      rw [seqIndex_of h0 h5] at h1
      exact Option.some.inj h1
    exact item_listR pl.isList h0 (by omega) (by rw [hj]; simpa using ew) fin hs
  · have hj : (i + (its.toArray.size : Int)).toNat = j := by
      rw [seqIndex_neg (by omega) h4] at h1
      rw [List.size_toArray, ← hl]
      exact Option.some.inj h1
    exact subscriptTail_builtinR (x := w) pl.isList.typeIs slot_list_getitem.lookup
      (wpAny_getItem_list_neg (Q := fun r s' => r = w ∧ EP X pins σ Q r s') pl.isList (by omega) (by rw [List.size_toArray] <;> omega) (by omega) (by rw [hj]; simpa using ew) ⟨rfl, fin⟩) hs
theorem ix_tup : IxR X (rIxT X.K) := by
  intro value slice pins s σ H x y v u Q I rx ry h hs
  obtain ⟨p, xs, i, z, rfl, rfl, hq, he, q⟩ := h
  cases rx
  obtain ⟨t, rfl⟩ := ry
  obtain ⟨its, r, pl, hz⟩ := I.tuple hq
  obtain ⟨j, h1, h2, h3, h4, h5⟩ := atI_get he
  obtain ⟨w, ew, rw'⟩ := r.get h2
  have hl := r.length
  have hn := line63
  have fin : EP X pins σ Q w s := ⟨z, H, I, rw', q⟩
  exact subscriptTail_builtinR (x := w) pl.typeIs slot_tuple_getitem.lookup
    (getItem_tuple (j := j) (Q := fun r s' => r = w ∧ EP X pins σ Q r s') pl (by omega) (by omega) (by rw [List.size_toArray, ← hl]; exact h1) (by simpa using ew) ⟨rfl, fin⟩) hs
/-! ### xs[i] = v, any sign -/
/-- the list's object behind a store -/
theorem mapSeq_set (its : List Value) (n j : Nat) (u : Value) : Obj.mapSeq (·.setIfInBounds j u) { cls := .type "list", data := .seq its.toArray n } = { cls := .type "list", data := .seq (its.set j u).toArray n } := by
  simp [Obj.mapSeq]
theorem Inv.lst {pins : List (Addr × Obj)} {σ : St} {H : Hp} {s : Shared} {p : Addr} {xs : List V} (I : Inv X pins σ H s) (h : H p = some (.lst xs)) :
    ∃ (its : List Value) (n : Nat), Vals xs its ∧ s.heap.get? p = some { cls := .type "list", data := .seq its.toArray n } ∧ xs.length ≤ sizeLine := by
  obtain ⟨z, its, n, r, e⟩ := I.hok p _ h
  exact ⟨its, n, r, e, z⟩
/-- the list at p is written by an update of its object -/
theorem Inv.lstUpd {pins : List (Addr × Obj)} {σ : St} {H : Hp} {s : Shared} {p : Addr} {xs ys : List V} {its its' : List Value} {n n' : Nat} {f : Obj → Obj} (I : Inv X pins σ H s) (h : H p = some (.lst xs))
    (ho : s.heap.get? p = some { cls := .type "list", data := .seq its.toArray n }) (hf : f { cls := .type "list", data := .seq its.toArray n } = { cls := .type "list", data := .seq its'.toArray n' }) (r : Vals ys its') (hz : ys.length ≤ sizeLine) (t : Nat) :
    Inv X pins σ (upd H p (.lst ys)) { s with heap := s.heap.update p f, toks := t } := by
  have e : (s.heap.update p f).get? p = some { cls := .type "list", data := .seq its'.toArray n' } := by
    rw [Heap.get?_update_self f ho (by rw [hf] <;> rfl), hf]
  refine I.write (x := p) (e := p) (by rw [h]; trivial) (.inl rfl) (fun b u hb q => (Heap.get?_update_other _ _ (Ne.symm hb)).trans q) ⟨_, e⟩ ?_
  exact ⟨hz, its', n', r, e⟩
def rSetL : V → V → V → Hp → (Hp → Prop) → Prop := fun o i v H Q => ∃ p xs k j, o = .ref p ∧ i = .int k ∧ H p = some (.lst xs) ∧ ixN xs.length k = some j ∧ Q (upd H p (.lst (xs.set j v)))
theorem set_list : PSet X rSetL := by
  intro pins s σ H o i v ov iv u Q I ro ri rv h
  obtain ⟨p, xs, k, j, rfl, rfl, hp, hj, q⟩ := h
  cases ro
  obtain ⟨t, rfl⟩ := ri
  obtain ⟨its, n, r, ho, hz⟩ := I.lst hp
  obtain ⟨h1, h2, h3, h4⟩ := ixN_seq hj
  have hl := r.length
  have hn := line63
  have I' : Inv X pins σ (upd H p (.lst (xs.set j v))) { s with heap := s.heap.update p (Obj.mapSeq (·.setIfInBounds j u)) } :=
    I.lstUpd hp ho (mapSeq_set its n j u) (r.set rv j) (by rw [List.length_set]; exact hz) s.toks
  by_cases h0 : 0 ≤ k
  · have hk : k.toNat = j := by
      rw [seqIndex_of h0 h4] at h1
      exact Option.some.inj h1
    exact PySem.W.ki_setAt ho h0 (by omega) (by rw [List.size_toArray, ← hl]; exact h4) (by rw [hk]; exact ⟨_, I', q⟩)
  · have hk : (k + (its.toArray.size : Int)).toNat = j := by
      rw [seqIndex_neg (by omega) h3] at h1
      rw [List.size_toArray, ← hl]
      exact Option.some.inj h1
    exact PySem.W.ki_setBack ho (by omega) (by rw [List.size_toArray, ← hl]; exact h3) (by omega) (by rw [hk]; exact ⟨_, I', q⟩)

/-! ### slices -/
theorem slice_bounds (lo hi : Option Int) (n : Nat) : (sliceBounds lo hi none n).1 = ((HT.sIx n 0 lo : Nat) : Int) ∧ (sliceBounds lo hi none n).2.1 = ((HT.sIx n n hi : Nat) : Int) ∧ (sliceBounds lo hi none n).2.2 = 1 := by
  refine ⟨?_, ?_, rfl⟩
  · cases lo with
    | none => simp [sliceBounds, HT.sIx]
    | some i =>
      simp only [sliceBounds, HT.sIx, Option.getD_none, show (1 : Int) > 0 by decide, if_true]
      by_cases h : i < 0
      · simp only [h, if_true] <;> omega
      · simp only [h, if_false] <;> omega
  · cases hi with
    | none => simp [sliceBounds, HT.sIx]
    | some i =>
      simp only [sliceBounds, HT.sIx, Option.getD_none, show (1 : Int) > 0 by decide, if_true]
      by_cases h : i < 0
      · simp only [h, if_true] <;> omega
      · simp only [h, if_false] <;> omega
theorem slicePick_cut (its : List Value) (lo hi : Option Int) : slicePick its.toArray lo hi none = ((its.drop (HT.sIx its.length 0 lo)).take (HT.sIx its.length its.length hi - HT.sIx its.length 0 lo)).toArray := by
  obtain ⟨h1, h2, h3⟩ := slice_bounds lo hi its.toArray.size
  unfold slicePick
  rw [h1, h2, h3]
  simp only [sliceRange_one, pick_run, List.size_toArray] <;> rfl
/-- xs[lo:hi] of a list: a new list -/
def rSlL (K : PySem.W.Frag) : V → Option Int → Option Int → Hp → VK → Prop := fun x lo hi H Q => ∃ a xs, x = .ref a ∧ SqL K H a xs ∧ ∀ p, H p = none → Q (.ref p) (upd H p (.lst (cutV xs lo hi)))
theorem sl_list : SlR X (rSlL X.K) := by
  intro pins s σ H x v vl vu lo hi sl Q I rx hs pl pu h
  obtain ⟨a, xs, rfl, hx, q⟩ := h
  cases rx
  obtain ⟨its, r, ht, hz⟩ := I.list hx
  have hlen := r.length
  refine ⟨"list", _, slot_list_getitem.lookup, ht.isList.typeIs, ?_⟩
  refine wpAny_getItem_list_slice ht.isList hs pl pu .none (by simp) ?_ (by rw [List.size_toArray] <;> omega)
  rw [slicePick_cut, ← hlen]
  refine ⟨.ref s.heap.objs.size, _, I.laid (t' := s.toks) (o := .lst (cutV xs lo hi)) (fun b ob q => Heap.get?_push_of_some _ q) (Nat.le_refl _) ?_, rfl, q _ (I.hok.fresh (Nat.le_refl _))⟩
  exact ⟨Nat.le_trans (cutV_length xs lo hi) hz, _, 0, (r.drop (HT.sIx xs.length 0 lo)).take (HT.sIx xs.length xs.length hi - HT.sIx xs.length 0 lo), Heap.get?_push_size _ rfl⟩

/-! ### in, not in: flat items -/
def flatV : V → Bool
  | .non => true
  | .bl _ => true
  | .int _ => true
  | .str _ => true
  | _ => false
/-- == of flat values -/
def eqV : V → V → Bool
  | .non, .non => true
  | .bl a, .bl b => a == b
  | .bl a, .int b => (if a then 1 else 0) == b
  | .int a, .bl b => a == (if b then 1 else 0)
  | .int a, .int b => a == b
  | .str a, .str b => a == b
  | _, _ => false
theorem eqAt_V {A : Around} {s : Shared} {y x : V} {u v : Value} (ry : RelV y u) (rx : RelV x v) (fy : flatV y = true) (fx : flatV x = true) : SeqAt.EqAt A s u v (eqV y x) := by
  cases y with
  | non =>
    cases ry
    cases x with
    | non => cases rx; exact SeqAt.EqAt.same _
    | bl b => cases rx; exact SeqAt.EqAt.none_bool b
    | int b => obtain ⟨t, rfl⟩ := rx; exact SeqAt.EqAt.none_int b t
    | str b => obtain ⟨t, rfl⟩ := rx; exact SeqAt.EqAt.none_str b t
    | _ => exact absurd (show false = true from fx) Bool.false_ne_true
  | bl a =>
    cases ry
    cases x with
    | non => cases rx; exact SeqAt.EqAt.bool_none a
    | bl b => cases rx; exact SeqAt.EqAt.bool_bool a b
    | int b => obtain ⟨t, rfl⟩ := rx; exact SeqAt.EqAt.bool_int a b t
    | str b => obtain ⟨t, rfl⟩ := rx; exact SeqAt.EqAt.bool_str a b t
    | _ => exact absurd (show false = true from fx) Bool.false_ne_true
  | int a =>
    obtain ⟨t', rfl⟩ := ry
    cases x with
    | non => cases rx; exact SeqAt.EqAt.int_none a t'
    | bl b => cases rx; exact SeqAt.EqAt.int_bool a t' b
    | int b => obtain ⟨t, rfl⟩ := rx; exact SeqAt.EqAt.int_int a t' b t
    | str b => obtain ⟨t, rfl⟩ := rx; exact SeqAt.EqAt.int_str a t' b t
    | _ => exact absurd (show false = true from fx) Bool.false_ne_true
  | str a =>
    obtain ⟨t', rfl⟩ := ry
    cases x with
    | non => cases rx; exact SeqAt.EqAt.str_none a t'
    | bl b => cases rx; exact SeqAt.EqAt.str_bool a t' b
    | int b => obtain ⟨t, rfl⟩ := rx; exact SeqAt.EqAt.str_int a t' b t
    | str b => obtain ⟨t, rfl⟩ := rx; exact SeqAt.EqAt.str_str a t' b t
    | _ => exact absurd (show false = true from fx) Bool.false_ne_true
  | _ => exact absurd (show false = true from fy) Bool.false_ne_true
/-- the items' answers, read off the values (a value's own answer does not lean on its token) -/
def eqU (x : V) (u : Value) : Bool := match u with
  | .none => eqV .non x
  | .bool b => eqV (.bl b) x
  | .int i _ => eqV (.int i) x
  | .str z _ => eqV (.str z) x
  | _ => false
theorem eqU_of {x y : V} {u : Value} (r : RelV y u) (f : flatV y = true) : eqU x u = eqV y x := by
  cases y with
  | non => cases r; rfl
  | bl b => cases r; rfl
  | int i => obtain ⟨t, rfl⟩ := r; rfl
  | str z => obtain ⟨t, rfl⟩ := r; rfl
  | _ => exact absurd (show false = true from f) Bool.false_ne_true
theorem any_eqU {x : V} : ∀ {xs : List V} {us : List Value}, Vals xs us → xs.all flatV = true → us.any (eqU x) = xs.any fun y => eqV y x
  | _, _, .nil, _ => rfl
  | y :: xs, u :: us, .cons r t, f => by
    rw [List.all_cons, Bool.and_eq_true] at f
    rw [List.any_cons, List.any_cons, eqU_of r f.1, any_eqU t f.2]
theorem mem_eqAt {A : Around} {s : Shared} {x : V} {v : Value} (rx : RelV x v) (fx : flatV x = true) : ∀ {xs : List V} {us : List Value}, Vals xs us → xs.all flatV = true → ∀ u ∈ us, SeqAt.EqAt A s u v (eqU x u)
  | _, _, .nil, _ => fun u hu => by cases hu
  | y :: xs, u :: us, .cons r t, f => fun u' hu => by
    rw [List.all_cons, Bool.and_eq_true] at f
    rcases List.mem_cons.mp hu with rfl | hu
    · rw [eqU_of r f.1]; exact eqAt_V r rx f.1 fx
    · exact mem_eqAt rx fx t f.2 u' hu
def inV (x : V) (xs : List V) : Bool := xs.any fun y => eqV y x
/-- x in a list or tuple of flat items -/
def rIn (K : PySem.W.Frag) (neg : Bool) : R2 := fun x y H Q => ∃ p xs, y = .ref p ∧ (SqL K H p xs ∨ SqT K H p xs) ∧ flatV x = true ∧ xs.all flatV = true ∧ Q (.bl (if neg then !inV x xs else inV x xs)) H
theorem op_in_seq : OpR X (compareOp .In) (rIn X.K false) := by
  intro pins s σ H x y v u Q I rx ry h
  obtain ⟨p, xs, rfl, hq, fx, fs, q⟩ := h
  cases ry
  rcases hq with hq | hq
  · obtain ⟨its, r, pl, hz⟩ := I.list hq
    refine SeqAt.in_listAt (eqU x) pl.isList (fun w hw => mem_eqAt rx fx r fs w (by simpa using hw)) ⟨.bl _, H, I, rfl, ?_⟩
    rw [show its.toArray.any (eqU x) = its.any (eqU x) by simp, any_eqU r fs]
    exact q
  · obtain ⟨its, r, pl, hz⟩ := I.tuple hq
    refine SeqAt.in_tupleAt (eqU x) pl (fun w hw => mem_eqAt rx fx r fs w (by simpa using hw)) ⟨.bl _, H, I, rfl, ?_⟩
    rw [show its.toArray.any (eqU x) = its.any (eqU x) by simp, any_eqU r fs]
    exact q
theorem op_notIn_seq : OpR X (compareOp .NotIn) (rIn X.K true) := by
  intro pins s σ H x y v u Q I rx ry h
  obtain ⟨p, xs, rfl, hq, fx, fs, q⟩ := h
  cases ry
  rcases hq with hq | hq
  · obtain ⟨its, r, pl, hz⟩ := I.list hq
    refine SeqAt.notIn_listAt (eqU x) pl.isList (fun w hw => mem_eqAt rx fx r fs w (by simpa using hw)) ⟨.bl _, H, I, rfl, ?_⟩
    rw [show its.toArray.any (eqU x) = its.any (eqU x) by simp, any_eqU r fs]
    exact q
  · obtain ⟨its, r, pl, hz⟩ := I.tuple hq
    refine SeqAt.notIn_tupleAt (eqU x) pl (fun w hw => mem_eqAt rx fx r fs w (by simpa using hw)) ⟨.bl _, H, I, rfl, ?_⟩
    rw [show its.toArray.any (eqU x) = its.any (eqU x) by simp, any_eqU r fs]
    exact q
/-! ### len, list(x), tuple(x) of any list or tuple that is read -/
theorem call_len_seq : CallR X (.builtin "len") (fun xs H Q => ∃ p ys, xs = [.ref p] ∧ (SqL X.K H p ys ∨ SqT X.K H p ys) ∧ Q (.int ys.length) H) := by
  intro pins s σ H xs us Q I r h
  obtain ⟨p, ys, rfl, hq, q⟩ := h
  obtain ⟨u, rfl, rx⟩ := vals1 r
  cases rx
  have hn := line63
  rcases hq with hq | hq
  · obtain ⟨its, r', pl, hz⟩ := I.list hq
    have hlen := r'.length
    exact Calls.call_len_list pl.isList (by simp only [List.size_toArray] <;> omega) ⟨.int ys.length, H, I.tok _, ⟨s.toks + 1, by rw [List.size_toArray, hlen]⟩, q⟩
  · obtain ⟨its, r', pl, hz⟩ := I.tuple hq
    have hlen := r'.length
    exact len_tuple pl (by simp only [List.size_toArray] <;> omega) ⟨.int ys.length, H, I.tok _, ⟨s.toks + 1, by rw [List.size_toArray, hlen]⟩, q⟩
theorem CallR.or {f : Value} {r r' : List V → Hp → VK → Prop} (h : CallR X f r) (h' : CallR X f r') : CallR X f (fun xs H Q => r xs H Q ∨ r' xs H Q) := by
  intro pins s σ H xs us Q I rs q
  rcases q with q | q
  · exact h pins s σ H xs us Q I rs q
  · exact h' pins s σ H xs us Q I rs q
theorem call_list_of : CallR X (.type "list") (fun xs H Q => ∃ p ys, xs = [.ref p] ∧ (SqL X.K H p ys ∨ SqT X.K H p ys) ∧ ∀ l, H l = none → Q (.ref l) (upd H l (.lst ys))) := by
  intro pins s σ H xs us Q I r h
  obtain ⟨p, ys, rfl, hq, q⟩ := h
  obtain ⟨u, rfl, rx⟩ := vals1 r
  cases rx
  have fin : ∀ (its : List Value), Vals ys its → ys.length ≤ sizeLine → ∀ (h' : Heap) (c' : Nat), (∀ b o', s.heap.get? b = some o' → h'.get? b = some o') →
      h'.get? s.heap.objs.size = some { cls := .type "list", dict := none, data := .seq its.toArray c', slots := #[] } → EP X pins σ Q (.ref s.heap.objs.size) { s with heap := h' } := fun its r' hz h' c' kp e =>
    ⟨.ref s.heap.objs.size, _, I.laid (t' := s.toks) kp (Nat.le_refl _) (show ObjOk X.prog X.w _ h' _ (.lst ys) from ⟨hz, its, c', r', e⟩), rfl, q _ (I.hok.fresh (Nat.le_refl _))⟩
  rcases hq with hq | hq
  · obtain ⟨its, r', pl, hz⟩ := I.list hq
    have hlen := r'.length
    obtain ⟨o, ho, hc, n, hd⟩ := pl.isList
    exact call_list_seq p (.inl rfl) ho hc hd (fun h' c' kp e => fin its r' hz h' c' kp e) (by simp only [List.size_toArray] <;> omega)
  · obtain ⟨its, r', pl, hz⟩ := I.tuple hq
    have hlen := r'.length
    obtain ⟨o, ho, hc, n, hd⟩ := pl
    exact call_list_seq p (.inr rfl) ho hc hd (fun h' c' kp e => fin its r' hz h' c' kp e) (by simp only [List.size_toArray] <;> omega)
/-! ### the call of a builtin's method: o.m(..) -/
/-- the value is of that builtin type -/
def tyV (K : PySem.W.Frag) (T : String) (x : V) (H : Hp) : Prop := match x with
  | .str _ => T = "str"
  | .int _ => T = "int"
  | .ref p => (T = "list" ∧ ∃ xs, SqL K H p xs) ∨ (T = "tuple" ∧ ∃ o, K.lookup p = some o ∧ o.cls = .type "tuple" ∧ o.dict = none) ∨
      (T = "dict" ∧ ((∃ kvs, H p = some (.dK kvs)) ∨ ∃ kvs, H p = some (.dT kvs))) ∨ (T = "set" ∧ ∃ S n, H p = some (.set S n))
  | _ => False
theorem tyV_is {pins : List (Addr × Obj)} {σ : St} {H : Hp} {s : Shared} {T : String} {x : V} {v : Value} (I : Inv X pins σ H s) (r : RelV x v) (ty : tyV X.K T x H) :
    s.TypeIs v T ∧ ∀ a, v = .ref a → ∃ ob, s.heap.get? a = some ob ∧ ob.dict = none := by
  cases x with
  | str z =>
    obtain ⟨t, rfl⟩ := r
    cases (show T = "str" from ty)
    exact ⟨typeIs_str s z t, fun _ e => nomatch e⟩
  | int i =>
    obtain ⟨t, rfl⟩ := r
    cases (show T = "int" from ty)
    exact ⟨typeIs_int s i t, fun _ e => nomatch e⟩
  | ref p =>
    cases r
    rcases ty with ⟨rfl, xs, hq⟩ | ⟨rfl, o, hk, hc, hd⟩ | ⟨rfl, hk⟩ | ⟨rfl, S, n, hk⟩
    · obtain ⟨its, _, pl, _⟩ := I.list hq
      refine ⟨pl.isList.typeIs, fun a e => ?_⟩
      cases e
      obtain ⟨o, n, e, c, hd, _⟩ := pl
      exact ⟨o, e, hd⟩
    · refine ⟨⟨o, I.kIn p o hk, hc⟩, fun a e => ?_⟩
      cases e
      exact ⟨o, I.kIn _ o hk, hd⟩
    · have z : ∃ o, s.heap.get? p = some o ∧ o.ExactDict := by
        rcases hk with ⟨kvs, hk⟩ | ⟨kvs, hk⟩
        · obtain ⟨_, _, _, _, o, _, _, e, ex, _⟩ := I.hok p _ hk
          exact ⟨o, e, ex⟩
        · obtain ⟨_, _, _, _, o, _, _, e, ex, _⟩ := I.hok p _ hk
          exact ⟨o, e, ex⟩
      obtain ⟨o, e, ex⟩ := z
      refine ⟨⟨o, e, ex.1⟩, fun a e2 => ?_⟩
      cases e2
      exact ⟨o, e, ex.2.1⟩
    · obtain ⟨o, _, _, _, e, ex, _⟩ := I.hok p _ hk
      refine ⟨⟨o, e, ex.1⟩, fun a e2 => ?_⟩
      cases e2
      exact ⟨o, e, ex.2.1⟩
  | _ => exact False.elim ty
def tBM (K : PySem.W.Frag) (T : String) (r : V → List V → Hp → VK → Prop) (to : TE) (t : TA) : TE := fun σ H Q => to σ H fun x H1 => tyV K T x H1 ∧ t σ H1 fun xs H2 => r x xs H2 Q
variable {o e : Expr} {es : List Expr} {to : TE} {t : TA} {name : Str} {apos cpos : Pos} {T id : String} {r : V → List V → Hp → VK → Prop}
theorem pe_bm (pa : PlainAttrs T) (slot : Slot T name id) (hty : typeOf (.builtin id) = pure (.type "method_descriptor")) (hm : MtR X id r) (ho : PE X o to) (ha : PA X (e :: es) t)
    (hbase : attributeBase o name X.env (eval o X.env) = eval o X.env := by rfl)
    (hfew : ((backTo cpos (starEach (e :: es) X.env)).all (fun x => !x.1) && (backToKw cpos (keywordEach [] X.env)).all (fun x => x.1.isSome)
      && decide ((e :: es).length + ([] : List Keyword).length + (if ([] : List Keyword).isEmpty then 0 else 1) < 30)) = true := by rfl)
    (hline : (apos.endLine == cpos.line) = true := by rfl) (hs : starEach (e :: es) X.env = (false, eval e X.env) :: starEach es X.env := by rfl) (hplain : (backTo cpos (starEach es X.env)).any (·.1) = false := by rfl) :
    PE X (.Call (.Attribute o name apos) (e :: es) [] cpos) (tBM X.K T r to t) := by
  intro pins s σ H Q I h
  refine wpAny_Call_method_late hbase hfew hline rfl (thn (ho pins s σ H _ I h) fun v s1 ⟨x, H1, I1, r1, ty, q1⟩ => ?_)
  obtain ⟨h1, h2⟩ := tyV_is I1 r1 ty
  refine ⟨T, id, pa, slot, hty, h1, h2, ?_⟩
  have hA := ha cpos pins s1 σ H1 _ I1 q1
  rw [hs] at hA ⊢
  refine Calls.callWith_builtin (by show (false || (backTo cpos (starEach es X.env)).any (·.1)) = false; rw [hplain] <;> rfl) (Calls.evalArgs_plain ?_)
  exact thn hA fun us s2 ⟨vs, H2, I2, r2, q2⟩ => hm pins s2 σ H2 x vs v us Q I2 r1 r2 q2
/- xs.append(e), list.index on a module's tuple .. are MtR facts of 06m -/
end
end L2

namespace L2
open PySem PySem.Spec PyProof.Rows

def MtM (X : Cx) (id : String) (r : V → List V → Hp → VK → Prop) : Prop :=
  ∀ (pins : List (Addr × Obj)) (s : Shared) (σ : St) (H : Hp) (x : V) (xs : List V) (v : Value) (us : List Value) (Q : VK), Inv X pins σ H s → RelV x v → Vals xs us → r x xs H Q →
    wpAny (model X.prog X.w) X.A (call (.builtin id) (v :: us)) (EP X pins σ Q) X.xe s

/-! ### lists of values -/
theorem Vals.one : ∀ {x : V} {us : List Value}, Vals [x] us → ∃ u, us = [u] ∧ RelV x u
  | _, _, .cons r .nil => ⟨_, rfl, r⟩
theorem Vals.two : ∀ {x y : V} {us : List Value}, Vals [x, y] us → ∃ u v, us = [u, v] ∧ RelV x u ∧ RelV y v
  | _, _, _, .cons r (.cons q .nil) => ⟨_, _, rfl, r, q⟩
theorem Vals.zero : ∀ {us : List Value}, Vals [] us → us = []
  | _, .nil => rfl
theorem Vals.eraseIdx : ∀ {xs : List V} {us : List Value} (i : Nat), Vals xs us → Vals (xs.eraseIdx i) (us.eraseIdx i)
  | _, _, _, .nil => .nil
  | _, _, 0, .cons _ t => t
  | _, _, i + 1, .cons r t => .cons r (Vals.eraseIdx i t)
theorem Vals.rep {xs : List V} {us : List Value} (h : Vals xs us) : ∀ k : Nat, Vals (List.replicate k xs).flatten (List.replicate k us).flatten
  | 0 => .nil
  | k + 1 => by
    rw [List.replicate_succ, List.replicate_succ, List.flatten_cons, List.flatten_cons]
    exact Vals.append h (Vals.rep h k)
theorem len_erase {α : Type} : ∀ (l : List α) (i : Nat), (l.eraseIdx i).length ≤ l.length
  | [], _ => Nat.le_refl _
  | _ :: _, 0 => Nat.le_succ _
  | _ :: r, i + 1 => Nat.succ_le_succ (len_erase r i)
theorem foldl_rep (its : List Value) : ∀ (k : Nat) (acc : List Value),
    List.foldl (fun x1 x2 => x1 ++ x2) acc.toArray (List.replicate k its.toArray) = (acc ++ (List.replicate k its).flatten).toArray
  | 0, acc => by simp
  | k + 1, acc => by
    have e : acc.toArray ++ its.toArray = (acc ++ its).toArray := by simp
    have e2 : (acc ++ its) ++ (List.replicate k its).flatten = acc ++ (List.replicate (k + 1) its).flatten := by
      rw [List.replicate_succ, List.flatten_cons, List.append_assoc]
    rw [← e2, ← foldl_rep its k (acc ++ its), ← e, List.replicate_succ, List.foldl_cons]

section
variable {X : Cx} {pins : List (Addr × Obj)} {σ : St} {H : Hp} {s : Shared} {l b : Addr} {xs ys zs : List V}

/-! ### the two steps: a tracked list is rewritten, a new list is laid -/
theorem Inv.lset {its its' : List Value} {n : Nat} {f : Array Value → Array Value} {t' : Nat} (I : Inv X pins σ H s) (hH : H l = some (.lst xs))
    (e : s.heap.get? l = some { cls := .type "list", data := .seq its.toArray n }) (hf : f its.toArray = its'.toArray) (hv : Vals ys its') (hz : ys.length ≤ sizeLine) :
    Inv X pins σ (upd H l (.lst ys)) { s with heap := s.heap.update l (Obj.mapSeq f), toks := t' } := by
  have q := PySem.IsL.update e f
  rw [hf] at q
  refine I.write (x := l) (e := l) (by rw [hH]; exact trivial) (.inl rfl) (fun b' u hb hu => (Heap.get?_update_other s.heap (Obj.mapSeq f) (Ne.symm hb)).trans hu) ⟨_, q⟩ ?_
  exact ⟨hz, its', _, hv, q⟩
theorem Inv.lnew {its : List Value} {t' : Nat} (I : Inv X pins σ H s) (hv : Vals ys its) (hz : ys.length ≤ sizeLine) :
    Inv X pins σ (upd H s.heap.objs.size (.lst ys)) { s with heap := s.heap.push { cls := .type "list", data := .seq its.toArray }, toks := t' } :=
  I.laid (fun _ _ q => Heap.get?_push_of_some _ q) (Nat.le_refl _) ⟨hz, its, 0, hv, Heap.get?_push_size _ rfl⟩
theorem Inv.fresh (I : Inv X pins σ H s) : H s.heap.objs.size = none := I.hok.fresh (Nat.le_refl _)
theorem Inv.lstM (I : Inv X pins σ H s) (hH : H l = some (.lst xs)) : xs.length ≤ sizeLine ∧ ∃ (its : List Value) (n : Nat), Vals xs its ∧ xs.length = its.length ∧ s.heap.get? l = some { cls := .type "list", data := .seq its.toArray n } := by
  obtain ⟨z, its, n, r, e⟩ := I.hok l _ hH
  exact ⟨z, its, n, r, r.length, e⟩

theorem notLongL {n : Nat} (h : n ≤ sizeLine) : Builtin.List.listTooLong n = false := by
  unfold Builtin.List.listTooLong
  exact decide_eq_false (by omega)
end

section
variable {X : Cx}

/-! ### methods -/
def rAppend : V → List V → Hp → VK → Prop := fun x vs H Q => ∃ l xs y, x = .ref l ∧ vs = [y] ∧ H l = some (.lst xs) ∧ xs.length < sizeLine ∧ Q .non (upd H l (.lst (xs ++ [y])))
theorem mt_append : MtM X "list.append" rAppend := by
  intro pins s σ H x vs v us Q I rx rv h
  obtain ⟨l, xs, y, rfl, rfl, hH, hz, q⟩ := h
  cases rx
  obtain ⟨u, rfl, ru⟩ := rv.one
  obtain ⟨z, its, n, r, hl, e⟩ := I.lstM hH
  refine call_meets F.slot_list_append ⟨_, e, rfl⟩ F.entry_list_append (F.args_list_append_2 _ _) (PySem.list_append l its.toArray n u (by rw [List.size_toArray]; omega)) ⟨e, ?_⟩
  refine ⟨.non, _, I.lset (its' := its ++ [u]) hH e (by simp) (r.append (.cons ru .nil)) ?_, rfl, q⟩
  rw [List.length_append, List.length_singleton]
  omega

def rExtend : V → List V → Hp → VK → Prop := fun x vs H Q => ∃ l b xs zs, x = .ref l ∧ vs = [.ref b] ∧ H l = some (.lst xs) ∧ H b = some (.lst zs) ∧ xs.length + zs.length ≤ sizeLine ∧ Q .non (upd H l (.lst (xs ++ zs)))
theorem mt_extend : MtM X "list.extend" rExtend := by
  intro pins s σ H x vs v us Q I rx rv h
  obtain ⟨l, b, xs, zs, rfl, rfl, hH, hB, hz, q⟩ := h
  cases rx
  obtain ⟨u, rfl, ru⟩ := rv.one
  cases ru
  obtain ⟨z, its, n, r, hl, e⟩ := I.lstM hH
  obtain ⟨z2, its2, n2, r2, hl2, e2⟩ := I.lstM hB
  have hsz : its.toArray.size + its2.toArray.size ≤ sizeLine := by rw [List.size_toArray, List.size_toArray]; omega
  have hlong : ¬ (!its.toArray.isEmpty && Builtin.List.listTooLong (its.toArray.size + its2.toArray.size)) = true := by
    rw [notLongL hsz, Bool.and_false]
    exact Bool.false_ne_true
  refine call_meets F.slot_list_extend ⟨_, e, rfl⟩ F.entry_list_extend (F.args_list_extend_2 _ _)
    (AutoSeq1.list_extend_list_list_0 l its.toArray n b its2.toArray n2 hlong (by rw [List.size_toArray]; omega) (by omega)) ⟨e, e2, ?_⟩
  refine ⟨.non, _, I.lset (its' := its ++ its2) hH e (by simp) (r.append r2) ?_, rfl, q⟩
  rw [List.length_append]
  omega

def rPopAt : V → List V → Hp → VK → Prop := fun x vs H Q => ∃ l xs i k y, x = .ref l ∧ vs = [.int i] ∧ H l = some (.lst xs) ∧ -(2 ^ 63) ≤ i ∧ i < 2 ^ 63 ∧ seqIndex? i xs.length = some k ∧ xs[k]? = some y ∧ Q y (upd H l (.lst (xs.eraseIdx k)))
theorem mt_popAt : MtM X "list.pop" rPopAt := by
  intro pins s σ H x vs v us Q I rx rv h
  obtain ⟨l, xs, i, k, y, rfl, rfl, hH, h1, h2, hk, hy, q⟩ := h
  cases rx
  obtain ⟨u, rfl, ru⟩ := rv.one
  obtain ⟨t, rfl⟩ := ru
  obtain ⟨z, its, n, r, hl, e⟩ := I.lstM hH
  obtain ⟨w, hw, rw'⟩ := r.get hy
  refine call_meets F.slot_list_pop ⟨_, e, rfl⟩ F.entry_list_pop (F.args_list_pop_2 _ _)
    (MeetsSeq.list_pop_at l its.toArray n i t k w (fitsIndex_both h1 h2) (by rw [List.size_toArray, ← hl]; exact hk) (by rw [← Array.getElem?_toList]; exact hw) (by rw [List.size_toArray]; omega)) ⟨e, ?_⟩
  refine ⟨y, _, I.lset (its' := its.eraseIdx k) hH e ?_ (r.eraseIdx k) ?_, rw', q⟩
  · show its.toArray.eraseIdxIfInBounds k = (its.eraseIdx k).toArray
    rw [List.eraseIdxIfInBounds_toArray]
  · have := len_erase xs k
    omega

/-! ### list + list, list += list, list * int -/
def rCat : R2 := fun x y H Q => ∃ l b xs zs, x = .ref l ∧ y = .ref b ∧ H l = some (.lst xs) ∧ H b = some (.lst zs) ∧ xs.length + zs.length ≤ sizeLine ∧ ∀ p, H p = none → Q (.ref p) (upd H p (.lst (xs ++ zs)))
/-- a list times an int (a negative one is nothing) -/
def rRep : R2 := fun x y H Q => ∃ l k xs, x = .ref l ∧ y = .int k ∧ H l = some (.lst xs) ∧ -(2 ^ 63) ≤ k ∧ k < 2 ^ 63 ∧ xs.length * k.toNat ≤ sizeLine ∧
  ∀ p, H p = none → Q (.ref p) (upd H p (.lst (List.replicate k.toNat xs).flatten))
theorem len_rep {α : Type} (xs : List α) (k : Nat) : (List.replicate k xs).flatten.length = k * xs.length := by
  induction k with
  | zero => simp
  | succ k ih => rw [List.replicate_succ, List.flatten_cons, List.length_append, ih, Nat.succ_mul, Nat.add_comm]
theorem op_rep : OpR X (binaryOp .Mult) rRep := by
  intro pins s σ H x y v u Q I rx ry h
  obtain ⟨l, k, xs, rfl, rfl, hH, h1, h2, hz, q⟩ := h
  cases rx
  obtain ⟨t, rfl⟩ := ry
  obtain ⟨z, its, n, r, hl, e⟩ := I.lstM hH
  have hlen : its.toArray.size * k.toNat ≤ sizeLine := by rw [List.size_toArray, ← hl]; exact hz
  have hcap : ¬ its.toArray.size * k.toNat > (2 ^ 63 - 1) / 8 := by
    have : (sizeLine : Nat) ≤ (2 ^ 63 - 1) / 8 := by decide
    omega
  have hfit : ¬ (!Builtin.List.listFitsIndex k) = true := by
    rw [fitsIndex_both h1 h2]
    exact Bool.false_ne_true
  have hlong : ¬ Builtin.List.listTooLong (its.toArray.size * k.toNat) = true := by
    rw [notLongL hlen]
    exact Bool.false_ne_true
  have hnew : List.foldl (fun x1 x2 => x1 ++ x2) #[] (List.replicate (if its.toArray.isEmpty = true then 0 else k.toNat) its.toArray) = (List.replicate k.toNat its).flatten.toArray := by
    have f0 : ∀ m : Nat, List.foldl (fun x1 x2 => x1 ++ x2) #[] (List.replicate m its.toArray) = (List.replicate m its).flatten.toArray := fun m => by
      have := foldl_rep its m []
      rw [List.nil_append] at this
      exact this
    rw [f0]
    cases its with
    | nil => simp
    | cons a r' => rw [if_neg (by simp)]
  refine wpAny_binaryOp_repeat_ref (T := "list") (U := "int") (by decide) ⟨_, e, rfl⟩ (fun s' => typeIs_int s' k t) noFill_list_mul F.fills_int_mul F.slot_int_rmul repeat_list F.slot_int_index.lookup
    (call_meets F.slot_int_rmul (typeIs_int s k t) F.entry_int_rmul (F.args_int_rmul_2 _ _) (int___rmul___int_list k t l its.toArray n)
      ⟨e, rfl, ⟨_, e, rfl⟩, call_meets F.slot_list_mul ⟨_, e, rfl⟩ F.entry_list_mul (F.args_list_mul_2 _ _) (AutoListH.list___mul___list_int_3 l its.toArray n k t hfit hcap hlong) ⟨e, ?_⟩⟩)
  rw [hnew]
  exact ⟨.ref _, _, I.lnew (t' := s.toks) (r.rep k.toNat) (by rw [len_rep, Nat.mul_comm]; exact hz), rfl, q _ I.fresh⟩

/-! ### del xs[i] -/
end

/-! ### xs[a:b] = ys -/
section
variable {prog : Program} {w : World} {A : Around} {E : Value → Shared → Prop} {s : Shared}
set_option maxRecDepth 100000 in
end

section
variable {X : Cx}
end
end L2

namespace L2
open PySem PySem.Spec PyProof.Rows

theorem Vals.ints : ∀ {ns : List Int} {us : List Value}, Vals (ns.map V.int) us → IntsAre us ns
  | [], us, h => by
    rw [List.map_nil] at h
    cases h
    exact IntsAre.nil
  | n :: ns, us, h => by
    rw [List.map_cons] at h
    cases h with
    | cons r t =>
      obtain ⟨k, rfl⟩ := r
      exact IntsAre.cons n k (Vals.ints t)
theorem Vals.strs : ∀ {xs : List Str} {us : List Value}, Vals (xs.map V.str) us → StrsAre us xs
  | [], us, h => by
    rw [List.map_nil] at h
    cases h
    exact StrsAre.nil
  | x :: xs, us, h => by
    rw [List.map_cons] at h
    cases h with
    | cons r t =>
      obtain ⟨k, rfl⟩ := r
      exact StrsAre.cons x k (Vals.strs t)
/-! ### the library's walks over a list of ints, kept objects alone -/
section
variable {prog : Program} {w : World} {A : Around} {E : Value → Shared → Prop} {s : Shared} {l : Addr} {its : List Value} {ns : List Int} {Q : Value → Shared → Prop}
end

/-! ### the calls, by values (CallR of 03t; MtR of 06l) -/
section
variable {X : Cx}
/-! sorted, sort (fewer than 64 items: the library's own bound) -/
end

/-! ### list.index, flat items -/
section
variable {X : Cx}
def rIndex (K : PySem.W.Frag) : V → List V → Hp → VK → Prop := fun x xs H Q => ∃ (a : Addr) (ys : List V) (y : V) (j : Nat) (z : V), x = V.ref a ∧ xs = [y] ∧ SqL K H a ys ∧ flatV y = true ∧ ys.all flatV = true ∧ ys[j]? = some z ∧ eqV z y = true ∧
  (∀ (m : Nat) (z' : V), m < j → ys[m]? = some z' → eqV z' y = false) ∧ Q (.int (j : Nat)) H
theorem flat_at {ys : List V} (f : ys.all flatV = true) {j : Nat} {z : V} (h : ys[j]? = some z) : flatV z = true := List.all_eq_true.mp f z (List.mem_of_getElem? h)
theorem mt_index : MtR X "list.index" (rIndex X.K) := by
  intro pins s σ H x xs v us Q I rx rxs h
  obtain ⟨a, ys, y, j, z, rfl, rfl, hs, fy, fys, hz, hzj, hno, q⟩ := h
  cases rx
  cases rxs with
  | cons ry rt =>
    rename_i uy ut
    cases rt
    obtain ⟨its, rv, ⟨⟨cls, dd, data, sl⟩, n, ho, hc, hdn, hd⟩, hlen⟩ := I.list hs
    simp only at hc hd
    subst hc hd
    obtain ⟨u, hu, ru⟩ := rv.get hz
    obtain ⟨hjl, hje⟩ := List.getElem?_eq_some_iff.mp hu
    have hvl := rv.length
    have hj : j < its.toArray.size := by simpa using hjl
    have hsl := sizeLine_eq
    refine call_meets PySem.F.slot_list_index ⟨_, ho, rfl⟩ PySem.F.entry_list_index (PySem.F.args_list_index_2 _ _)
      (SeqAt.list_indexAt a its.toArray n dd sl uy (eqU y) j hj (by omega) ?_ ?_) ⟨ho, fun u' hu' => mem_eqAt ry fy rv fys u' (by simpa using hu'), ?_⟩
    · have e1 : its.toArray[j] = u := by simpa using hje
      rw [e1, eqU_of ru (flat_at fys hz)]
      exact hzj
    · intro m hm hmj
      have hml : m < its.length := by simpa using hm
      have hmy : m < ys.length := by omega
      have hy' : ys[m]? = some ys[m] := List.getElem?_eq_getElem hmy
      obtain ⟨u2, hu2, ru2⟩ := rv.get hy'
      obtain ⟨_, hme⟩ := List.getElem?_eq_some_iff.mp hu2
      have e1 : its.toArray[m] = u2 := by simpa using hme
      rw [e1, eqU_of ru2 (flat_at fys hy')]
      exact hno m _ hmj hy'
    · exact ⟨.int (j : Nat), H, I.tok _, ⟨_, rfl⟩, q⟩
end

/-! ### type(x) of an own instance; is, is not of a module's class -/
section
variable {X : Cx}
end

/-! ### any(xs), all(xs) of a list of bools -/
section
variable {X : Cx}
end

/-! ### == and != of data at any depth: none, bools, ints, texts, lists, tuples -/
mutual
inductive Dp (K : PySem.W.Frag) (H : Hp) : V → PyData → Prop
  | non : Dp K H .non .none
  | bl (b : Bool) : Dp K H (.bl b) (.bool b)
  | int (i : Int) : Dp K H (.int i) (.int i)
  | str (x : Str) : Dp K H (.str x) (.str x)
  | lst {a : Addr} {xs : List V} {ds : List PyData} : SqL K H a xs → DpAll K H xs ds → Dp K H (.ref a) (.list ds)
  | tup {a : Addr} {xs : List V} {ds : List PyData} : SqT K H a xs → DpAll K H xs ds → Dp K H (.ref a) (.tuple ds)
inductive DpAll (K : PySem.W.Frag) (H : Hp) : List V → List PyData → Prop
  | nil : DpAll K H [] []
  | cons {v : V} {vs : List V} {d : PyData} {ds : List PyData} : Dp K H v d → DpAll K H vs ds → DpAll K H (v :: vs) (d :: ds)
end
section
variable {X : Cx} {pins : List (Addr × Obj)} {σ : St} {H : Hp} {s : Shared}
mutual
theorem Dp.reads (I : Inv X pins σ H s) : ∀ (d : PyData) (v : V) (u : Value), Dp X.K H v d → RelV v u → ∃ as, Reads s.heap u d as
  | .none, _, _, h, r => by
    cases h
    cases r
    exact ⟨_, Reads.none⟩
  | .bool b, _, _, h, r => by
    cases h
    cases r
    exact ⟨_, Reads.bool b⟩
  | .int i, _, _, h, r => by
    cases h
    obtain ⟨t, rfl⟩ := r
    exact ⟨_, Reads.int i t⟩
  | .str x, _, _, h, r => by
    cases h
    obtain ⟨t, rfl⟩ := r
    exact ⟨_, Reads.str x t⟩
  | .list ds, _, _, h, r => by
    cases h with
    | lst hs ha =>
      cases r
      obtain ⟨its, rv, ⟨o, n, ho, hc, _, hd⟩, _⟩ := I.list hs
      obtain ⟨as, hr⟩ := Dp.readsAll I ds _ its ha rv
      exact ⟨_, Reads.list ho hc hd hr⟩
  | .tuple ds, _, _, h, r => by
    cases h with
    | tup hs ha =>
      cases r
      obtain ⟨its, rv, ⟨o, ho, hc, n, hd⟩, _⟩ := I.tuple hs
      obtain ⟨as, hr⟩ := Dp.readsAll I ds _ its ha rv
      exact ⟨_, Reads.tuple ho hc hd hr⟩
  | .dict _, _, _, h, _ => by cases h
theorem Dp.readsAll (I : Inv X pins σ H s) : ∀ (ds : List PyData) (vs : List V) (us : List Value), DpAll X.K H vs ds → Vals vs us → ∃ as, ReadsAll s.heap us ds as
  | [], _, _, h, r => by
    cases h
    cases r
    exact ⟨_, ReadsAll.nil⟩
  | d :: ds, _, _, h, r => by
    cases h with
    | cons h1 h2 =>
      cases r with
      | cons r1 r2 =>
        obtain ⟨as, q1⟩ := Dp.reads I d _ _ h1 r1
        obtain ⟨bs, q2⟩ := Dp.readsAll I ds _ _ h2 r2
        exact ⟨_, ReadsAll.cons q1 q2⟩
end
end
section
variable {X : Cx}
def rEqD (K : PySem.W.Frag) : R2 := fun x y H Q => ∃ d e, Dp K H x d ∧ Dp K H y e ∧ SeqAt.shaped d = true ∧ SeqAt.shaped e = true ∧ Q (.bl (PyData.eqv d e)) H
def rNeD (K : PySem.W.Frag) : R2 := fun x y H Q => ∃ d e, Dp K H x d ∧ Dp K H y e ∧ SeqAt.shaped d = true ∧ SeqAt.shaped e = true ∧ Q (.bl (!PyData.eqv d e)) H
theorem op_eqD (hu : X.A.units + 64 < cLine) : OpR X (compareOp .Eq) (rEqD X.K) := by
  intro pins s σ H x y v u Q I rx ry h
  obtain ⟨d, e, hd, he, sd, se, q⟩ := h
  obtain ⟨as, r1⟩ := Dp.reads I d x v hd rx
  obtain ⟨bs, r2⟩ := Dp.reads I e y u he ry
  exact SeqAt.compareEq_shaped r1 r2 sd se hu ⟨.bl _, H, I, rfl, q⟩
theorem op_neD (hu : X.A.units + 64 < cLine) : OpR X (compareOp .NotEq) (rNeD X.K) := by
  intro pins s σ H x y v u Q I rx ry h
  obtain ⟨d, e, hd, he, sd, se, q⟩ := h
  obtain ⟨as, r1⟩ := Dp.reads I d x v hd rx
  obtain ⟨bs, r2⟩ := Dp.reads I e y u he ry
  exact SeqAt.compareNe_shaped r1 r2 sd se hu ⟨.bl _, H, I, rfl, q⟩
end
end L2

namespace L2
open PySem PySem.Spec PyProof.Rows
abbrev CellAt (h : Heap) (c : Addr) (v : Option Value) : Prop := h.IsCell c v
def relS (scope sc : Scope) : Scope :=
  { scope with names := scope.names.map fun (n, k) => if (k == .free && sc.kind == .function && sc.names.lookup n == some .cell) then (n, .cell) else (n, k) }

def cloFrom (cells : List (Str × Addr)) : List (Str × NameKind) → List (Str × Addr) → List (Str × Addr)
  | [], acc => acc
  | (n, k) :: r, acc => if k == .free then cloFrom cells r ((n, (cells.lookup n).getD 0) :: acc) else cloFrom cells r acc

theorem closure_loop (env : Env) (f : Str × NameKind → List (Str × Addr) → Sem (ForInStep (List (Str × Addr))))
    (hf : ∀ n k c, f (n, k) c = if k == .free then (do let a ← cellOf env n; pure (.yield ((n, a) :: c))) else pure (.yield c)) :
    ∀ (names : List (Str × NameKind)) (acc : List (Str × Addr)), (∀ y ∈ names, y.2 = .free → ∃ c, env.cells.lookup y.1 = some c) → forIn names acc f = pure (cloFrom env.cells names acc)
  | [], acc, _ => by rw [List.forIn_nil]; rfl
  | (n, k) :: r, acc, h => by
    rw [List.forIn_cons, hf]
    have ih := fun acc => closure_loop env f hf r acc fun y hy => h y (List.mem_cons_of_mem _ hy)
    unfold cloFrom
    by_cases hk : (k == NameKind.free) = true
    · rw [if_pos hk, if_pos hk]
      obtain ⟨c, hc⟩ := h (n, k) List.mem_cons_self (by simpa using hk)
      have e : cellOf env n = pure c := by unfold cellOf; rw [hc]
      rw [e]
      have e2 : (env.cells.lookup n).getD 0 = c := by rw [hc]; rfl
      rw [e2]
      exact ih _
    · rw [if_neg hk, if_neg hk]
      exact ih _
theorem closure_ok {scope : Scope} {env : Env} (h : ∀ y ∈ scope.names, y.2 = .free → ∃ c, env.cells.lookup y.1 = some c) : closureFor scope env = pure (cloFrom env.cells scope.names []) := by
  simp only [closureFor]
  rw [closure_loop env _ (fun n k c => rfl) scope.names [] h]
  rfl

theorem mem_lookup {α : Type} : ∀ {l : List (Str × α)} {n : Str} {c : α}, (n, c) ∈ l → ∃ c', l.lookup n = some c'
  | (k, v) :: r, n, c, h => by
    rw [List.lookup_cons]
    cases hb : n == k with
    | true => exact ⟨_, rfl⟩
    | false =>
      rcases List.mem_cons.mp h with e | h
      · cases e; simp at hb
      · exact mem_lookup h

theorem cloFrom_mem {cells : List (Str × Addr)} : ∀ {names : List (Str × NameKind)} {acc : List (Str × Addr)} {n : Str} {c : Addr}, (n, c) ∈ cloFrom cells names acc → (n, c) ∈ acc ∨ ((n, .free) ∈ names ∧ c = (cells.lookup n).getD 0)
  | [], _, _, _, h => .inl h
  | (m, k) :: r, acc, n, c, h => by
    unfold cloFrom at h
    split at h
    · rename_i hk
      have hk : k = .free := by simpa using hk
      rcases cloFrom_mem h with h | ⟨h1, h2⟩
      · rcases List.mem_cons.mp h with e | h
        · cases e; exact .inr ⟨hk ▸ List.mem_cons_self, rfl⟩
        · exact .inl h
      · exact .inr ⟨List.mem_cons_of_mem _ h1, h2⟩
    · rcases cloFrom_mem h with h | ⟨h1, h2⟩
      · exact .inl h
      · exact .inr ⟨List.mem_cons_of_mem _ h1, h2⟩
theorem cloFrom_acc {cells : List (Str × Addr)} : ∀ {names : List (Str × NameKind)} {acc : List (Str × Addr)} {p : Str × Addr}, p ∈ acc → p ∈ cloFrom cells names acc
  | [], _, _, h => h
  | (m, k) :: r, acc, p, h => by
    unfold cloFrom
    split
    · exact cloFrom_acc (List.mem_cons_of_mem _ h)
    · exact cloFrom_acc h
theorem cloFrom_has {cells : List (Str × Addr)} : ∀ {names : List (Str × NameKind)} {acc : List (Str × Addr)} {n : Str}, (n, .free) ∈ names → (n, (cells.lookup n).getD 0) ∈ cloFrom cells names acc
  | (m, k) :: r, acc, n, h => by
    unfold cloFrom
    rcases List.mem_cons.mp h with e | h
    · cases e
      exact cloFrom_acc List.mem_cons_self
    · split
      · exact cloFrom_has h
      · exact cloFrom_has h

theorem cells_mem : ∀ {names : List (Str × NameKind)} {h : Heap} {acc : List (Str × Addr)} {x : Str} {c : Addr}, (x, c) ∈ cellsFrom h.objs.size names acc →
    (x, c) ∈ acc ∨ ((x, .cell) ∈ names ∧ h.objs.size ≤ c ∧ CellAt (pushCells h names) c none)
  | [], _, _, _, _, h => .inl h
  | (n, k) :: r, h, acc, x, c, hm => by
    unfold cellsFrom at hm
    unfold pushCells
    split at hm
    · rename_i hk
      rw [if_pos hk]
      have hk : k = .cell := by simpa using hk
      rw [← Heap.size_push h { cls := .type "cell", data := .cell none }] at hm
      rcases cells_mem hm with hm | ⟨h1, h2, h3⟩
      · rcases List.mem_cons.mp hm with e | hm
        · cases e
          exact .inr ⟨hk ▸ List.mem_cons_self, Nat.le_refl _, _, pushCells_keeps r _ _ _ (Heap.get?_push_size _ rfl), rfl⟩
        · exact .inl hm
      · rw [Heap.size_push] at h2
        exact .inr ⟨List.mem_cons_of_mem _ h1, Nat.le_of_succ_le h2, h3⟩
    · rename_i hk
      rw [if_neg hk]
      rcases cells_mem hm with hm | ⟨h1, h2, h3⟩
      · exact .inl hm
      · exact .inr ⟨List.mem_cons_of_mem _ h1, h2, h3⟩
theorem cells_acc : ∀ {names : List (Str × NameKind)} {n : Nat} {acc : List (Str × Addr)} {p : Str × Addr}, p ∈ acc → p ∈ cellsFrom n names acc
  | [], _, _, _, h => h
  | (m, k) :: r, n, acc, p, h => by
    unfold cellsFrom
    split
    · exact cells_acc (List.mem_cons_of_mem _ h)
    · exact cells_acc h
theorem cells_has : ∀ {names : List (Str × NameKind)} {n : Nat} {acc : List (Str × Addr)} {x : Str}, (x, .cell) ∈ names → ∃ c, (x, c) ∈ cellsFrom n names acc
  | (m, k) :: r, n, acc, x, h => by
    unfold cellsFrom
    rcases List.mem_cons.mp h with e | h
    · cases e
      exact ⟨n, cells_acc List.mem_cons_self⟩
    · split
      · exact cells_has h
      · exact cells_has h
theorem cells_inj : ∀ {names : List (Str × NameKind)} {h : Heap} {acc : List (Str × Addr)} {x y : Str} {c : Addr}, (∀ p ∈ acc, p.2 < h.objs.size) → (∀ x y c, (x, c) ∈ acc → (y, c) ∈ acc → x = y) →
    (x, c) ∈ cellsFrom h.objs.size names acc → (y, c) ∈ cellsFrom h.objs.size names acc → x = y
  | [], _, _, _, _, _, _, hi, h1, h2 => hi _ _ _ h1 h2
  | (n, k) :: r, h, acc, x, y, c, hl, hi, h1, h2 => by
    unfold cellsFrom at h1 h2
    split at h1
    · rename_i hk
      rw [if_pos hk] at h2
      rw [← Heap.size_push h { cls := .type "cell", data := .cell none }] at h1 h2
      refine cells_inj (h := h.push _) (fun p hp => ?_) (fun x y c a b => ?_) h1 h2
      · rw [Heap.size_push]
        rcases List.mem_cons.mp hp with rfl | hp
        · exact Nat.lt_succ_self _
        · exact Nat.lt_succ_of_lt (hl p hp)
      · rcases List.mem_cons.mp a with e | a <;> rcases List.mem_cons.mp b with e' | b
        · cases e; cases e'; rfl
        · cases e; exact absurd (hl _ b) (Nat.lt_irrefl _)
        · cases e'; exact absurd (hl _ a) (Nat.lt_irrefl _)
        · exact hi _ _ _ a b
    · rename_i hk
      rw [if_neg hk] at h2
      exact cells_inj hl hi h1 h2

theorem newEnv_comp {M : Model} {A : Around} {E : Value → Shared → Prop} {s : Shared} {scope : Scope} {globals : Addr} {closure : List (Str × Addr)} {qual : Str} {func : Option Addr} {code : Value} {around : Env} {builtins : Addr} {Q : Env → Shared → Prop}
    (h : Q (newEnv scope s.heap.objs.size globals (cellsFrom (s.heap.objs.size + 1) scope.names closure) qual func code (some around) builtins)
      { s with heap := pushCells (s.heap.push { cls := .type "dict", data := .dict #[] }) scope.names }) :
    wpAny M A (newFunctionEnv scope globals closure [] qual func code (some around) builtins) Q E s := by
  simp only [newFunctionEnv, Option.isSome_some, if_true]
  refine wpAny_bind (wpAny_alloc ?_)
  refine wpAny_bind (wpAny_layCells _ (fun n k c => rfl) scope.names closure _ _ ?_)
  rw [show ({ s with heap := s.heap.push { cls := .type "dict", data := .dict #[] } } : Shared).heap.objs.size = s.heap.objs.size + 1 from Heap.size_push ..]
  rw [List.forIn_nil]
  exact wpAny_bind (wpAny_pure (wpAny_pure h))

/-- every name of the written scope, in the scope that runs -/
theorem lookup_relS {sc : Scope} : ∀ {names : List (Str × NameKind)} {x : Str} {k : NameKind},
    (names.map fun (n, k) => if (k == NameKind.free && sc.kind == .function && sc.names.lookup n == some .cell) then (n, NameKind.cell) else (n, k)).lookup x = some k →
    ∃ k', names.lookup x = some k' ∧ (k = k' ∨ (k' = .free ∧ k = .cell))
  | [], _, _, h => by simp at h
  | (n, k₀) :: r, x, k, h => by
    have ih := @lookup_relS sc r x k
    have h' : List.lookup x ((if (k₀ == NameKind.free && sc.kind == .function && sc.names.lookup n == some .cell) = true then (n, NameKind.cell) else (n, k₀)) :: (r.map _)) = some k := h
    cases hx : x == n with
    | true =>
      simp only [List.lookup_cons, hx]
      by_cases hc : (k₀ == NameKind.free && sc.kind == .function && sc.names.lookup n == some .cell) = true
      · rw [if_pos hc] at h'
        simp only [List.lookup_cons, hx] at h'
        cases h'
        simp only [Bool.and_eq_true, beq_iff_eq] at hc
        exact ⟨k₀, rfl, .inr ⟨hc.1.1, rfl⟩⟩
      · rw [if_neg hc] at h'
        simp only [List.lookup_cons, hx] at h'
        cases h'
        exact ⟨_, rfl, .inl rfl⟩
    | false =>
      simp only [List.lookup_cons, hx]
      by_cases hc : (k₀ == NameKind.free && sc.kind == .function && sc.names.lookup n == some .cell) = true
      · rw [if_pos hc] at h'
        simp only [List.lookup_cons, hx] at h'
        exact ih h'
      · rw [if_neg hc] at h'
        simp only [List.lookup_cons, hx] at h'
        exact ih h'
/-- the names of a comprehension's block: its own (with their places in N), or captured -/
structure BlkOk (N : List Str) (sc scope : Scope) (own : List (Str × Nat)) : Prop where
  kind : scope.kind = .function
  uniq : ∀ y ∈ scope.names, scope.names.lookup y.1 = some y.2
  ix : ∀ p ∈ own, N[p.2]? = some p.1
  free : ∀ y ∈ scope.names, y.2 = .free → sc.names.lookup y.1 = some .cell ∨ sc.names.lookup y.1 = some .free
  own : ∀ y ∈ scope.names, y.2 = .local ∨ y.2 = .cell → y.1 ∈ own.map (·.1) ∨ y.1 ∉ N
/-- the slots of the block's own names forgotten -/
def wipe (σ : St) : List Nat → St
  | [] => σ
  | v :: vs => (wipe σ vs).set v none
theorem wipe_length (σ : St) : ∀ vs : List Nat, (wipe σ vs).length = σ.length
  | [] => rfl
  | v :: vs => by unfold wipe; rw [List.length_set, wipe_length σ vs]
theorem wipe_some {σ : St} {i : Nat} {x : V} : ∀ {vs : List Nat}, (wipe σ vs)[i]? = some (some x) → σ[i]? = some (some x) ∧ i ∉ vs
  | [], h => ⟨h, by simp⟩
  | v :: vs, h => by
    unfold wipe at h
    by_cases hi : v = i
    · subst hi
      by_cases hv : v < (wipe σ vs).length
      · rw [List.getElem?_set_self hv] at h; cases h
      · rw [List.getElem?_eq_none (by simpa using hv)] at h; cases h
    · rw [List.getElem?_set_ne hi] at h
      obtain ⟨h1, h2⟩ := wipe_some h
      exact ⟨h1, by simp only [List.mem_cons, not_or]; exact ⟨fun e => hi e.symm, h2⟩⟩

/-- the context of a block that starts at s, its iterator's objects at fp -/
abbrev Cx.blk (X : Cx) (s : Shared) (H : Hp) (scope : Scope) (cenv : Env) (fp : List Addr) : Cx := { X with s_0 := s, H_0 := H, env := cenv, outer := X.stack, ex := fp, fn := fun x => scope.names.lookup x == some .cell, pn := [], xe := fun _ _ => False }
section
variable {X : Cx} {pins : List (Addr × Obj)} {σ : St} {H : Hp} {s : Shared}
theorem block_start {scope : Scope} {own : List (Str × Nat)} {fp : List Addr} (I : Inv X pins σ H s) (ok : BlkOk X.N X.env.scope scope own) (hN : X.N.Nodup) (hfp : ∀ b ∈ fp, FpOk X pins H b ∧ b < s.heap.objs.size) :
    Inv (X.blk s H scope (compEnvC scope (cellsFrom (s.heap.objs.size + 1) scope.names (cloFrom X.env.cells scope.names [])) s.heap.objs.size X.env) fp) [] (wipe σ (own.map (·.2))) H { s with heap := pushCells (s.heap.push { cls := .type "dict", data := .dict #[] }) scope.names } := by
  have hfree : ∀ y ∈ scope.names, y.2 = .free → ∃ c, X.env.cells.lookup y.1 = some c := fun y hy e => by
    rcases ok.free y hy e with k | k
    · exact I.ok.has _ (.inl k)
    · exact I.ok.has _ (.inr k)
  generalize hcenv : compEnvC scope (cellsFrom (s.heap.objs.size + 1) scope.names (cloFrom X.env.cells scope.names [])) s.heap.objs.size X.env = cenv
  have kp : ∀ b o, s.heap.get? b = some o → (pushCells (s.heap.push { cls := .type "dict", data := .dict #[] }) scope.names).get? b = some o := fun b o e => pushCells_keeps _ _ _ _ (Heap.get?_push_of_some _ e)
  have hL : cenv.locals = s.heap.objs.size := by rw [← hcenv]; rfl
  have hcl : cenv.cells = cellsFrom (s.heap.objs.size + 1) scope.names (cloFrom X.env.cells scope.names []) := by rw [← hcenv]; rfl
  have hsc : cenv.scope = relS scope X.env.scope := by rw [← hcenv]; rfl
  rw [← Heap.size_push s.heap { cls := .type "dict", data := .dict #[] }] at hcl
  have cm : ∀ {y c}, (y, c) ∈ cloFrom X.env.cells scope.names [] → X.env.cells.lookup y = some c ∧ c < s.heap.objs.size := fun {y c} hm => by
    rcases cloFrom_mem hm with hm | ⟨h1, rfl⟩
    · cases hm
    · obtain ⟨c, hc⟩ := hfree _ h1 rfl
      rw [hc]
      obtain ⟨w, z⟩ := I.cell _ _ hc
      exact ⟨rfl, z.lt⟩
  have mem : ∀ {y c}, cenv.cells.lookup y = some c → (X.env.cells.lookup y = some c ∧ c < s.heap.objs.size) ∨ (s.heap.objs.size + 1 ≤ c ∧ CellAt (pushCells (s.heap.push { cls := .type "dict", data := .dict #[] }) scope.names) c none) := fun {y c} e => by
    rw [hcl] at e
    rcases cells_mem (PySem.mem_of_lookup e) with hm | ⟨_, h2, h3⟩
    · exact .inl (cm hm)
    · rw [Heap.size_push] at h2; exact .inr ⟨h2, h3⟩
  have look : ∀ {y}, scope.names.lookup y = some .free → ∃ c, cenv.cells.lookup y = some c ∧ X.env.cells.lookup y = some c := fun {y} hl => by
    have hy : (y, NameKind.free) ∈ scope.names := PySem.mem_of_lookup hl
    obtain ⟨c', e'⟩ := mem_lookup (cells_acc (names := scope.names) (n := (s.heap.push { cls := .type "dict", data := .dict #[] }).objs.size) (cloFrom_has (cells := X.env.cells) (acc := []) hy))
    rw [← hcl] at e'
    refine ⟨c', e', ?_⟩
    rw [hcl] at e'
    rcases cells_mem (PySem.mem_of_lookup e') with hm | ⟨h1, _, _⟩
    · exact (cm hm).1
    · have := ok.uniq _ h1
      rw [hl] at this; cases this
  have okB : (X.blk s H scope cenv fp).Ok := by
    refine ⟨I.ok.mod, by show cenv.scope.kind = _; rw [hsc]; exact ok.kind, by show cenv.globals = _; rw [← hcenv]; exact I.ok.glob, by show cenv.builtins = _; rw [← hcenv]; exact I.ok.blt, by show s.heap.objs.size ≤ cenv.locals; rw [hL]; exact Nat.le_refl _,
      fun y z c e1 e2 => ?_, fun y hy => ?_, fun y c z e => ?_, I.ok.hd, I.ok.frames, .inl rfl, fun b hb => ⟨?_, fun y c e z => ?_⟩, I.bs, Nat.le_trans I.ok.bsz I.sz, fun b o e hb => ?_, fun b hb z => ?_, I.stack, I.stkFree⟩
    · have e1 : cenv.cells.lookup y = some c := e1
      have e2 : cenv.cells.lookup z = some c := e2
      rw [hcl] at e1 e2
      refine cells_inj (fun p hp => ?_) (fun y z c a b => I.ok.inj y z c (cm a).1 (cm b).1) (PySem.mem_of_lookup e1) (PySem.mem_of_lookup e2)
      rw [Heap.size_push]
      exact Nat.lt_succ_of_lt (cm (y := p.1) (c := p.2) hp).2
    · show ∃ c, cenv.cells.lookup y = some c
      have key : ∀ k, cenv.kindOf y = some k → (k = .cell ∨ k = .free) → ∃ c, cenv.cells.lookup y = some c := fun k hk hk' => by
        unfold Env.kindOf at hk
        rw [hsc] at hk
        obtain ⟨k', e, r⟩ := lookup_relS hk
        have : k' = .cell ∨ k' = .free := by
          rcases r with rfl | ⟨rfl, _⟩
          · exact hk'
          · exact .inr rfl
        rcases this with rfl | rfl
        · obtain ⟨c, hm⟩ := cells_has (n := (s.heap.push { cls := .type "dict", data := .dict #[] }).objs.size) (acc := cloFrom X.env.cells scope.names []) (PySem.mem_of_lookup e)
          obtain ⟨c', e'⟩ := mem_lookup hm
          exact ⟨c', by rw [hcl]; exact e'⟩
        · obtain ⟨c, h1, _⟩ := look e
          exact ⟨c, h1⟩
      rcases hy with hy | hy
      · exact key _ hy (.inl rfl)
      · exact key _ hy (.inr rfl)
    · have z : (scope.names.lookup y == some NameKind.cell) = true := z
      have z : scope.names.lookup y = some .cell := by simpa using z
      have e : cenv.cells.lookup y = some c := e
      rw [hcl] at e
      rcases cells_mem (PySem.mem_of_lookup e) with hm | ⟨_, h2, _⟩
      · rcases cloFrom_mem hm with hm | ⟨h1, _⟩
        · cases hm
        · have q := ok.uniq _ h1
          rw [z] at q; cases q
      · rw [Heap.size_push] at h2
        exact Nat.le_of_succ_le h2
    · show b ≠ cenv.locals
      rw [hL]; exact Nat.ne_of_lt (hfp b hb).2
    · have e : cenv.cells.lookup y = some c := e
      rcases mem e with ⟨h1, _⟩ | ⟨h1, _⟩
      · exact (hfp b hb).1.2.2.2.2.1 y c h1 z
      · have h2 : s.heap.objs.size + 1 ≤ b := by rw [← z]; exact h1
        exact absurd (Nat.lt_of_lt_of_le (hfp b hb).2 (Nat.le_of_succ_le h2)) (Nat.lt_irrefl _)
    · rcases (hfp b hb).1.2.2.2.1 with z | z
      · exact I.ok.noex b o e z
      · exact absurd (Nat.lt_of_lt_of_le (Heap.lt_size e) (Nat.le_trans I.ok.bsz z)) (Nat.lt_irrefl _)
    · rcases List.mem_cons.mp (I.stkSub b z) with z | z
      · exact (hfp b hb).1.2.1 z
      · exact (hfp b hb).1.2.2.1 z
  refine ⟨okB, rfl, I.bare, Un.kept kp, ⟨fun _ => none, ?_, fun i y av e1 e2 e3 => ?_⟩, fun y c e => ?_, ?_, fun y c e => ?_, fun p hp => ?_, I.hok.kept kp, by rw [wipe_length]; exact I.len⟩
  · show Heap.Ns _ cenv.locals _
    rw [hL]
    exact Heap.Ns.keeps (Heap.Ns.new ..) fun b o e => pushCells_keeps _ _ _ _ e
  · obtain ⟨e2, hne⟩ := wipe_some e2
    have hfr : scope.names.lookup y = some .free ∧ (cenv.kindOf y = some .cell ∨ cenv.kindOf y = some .free) := by
      have key : ∀ k, cenv.scope.names.lookup y = some k → k = .local ∨ k = .cell ∨ k = .free → scope.names.lookup y = some .free ∧ (cenv.kindOf y = some .cell ∨ cenv.kindOf y = some .free) := fun k hk hk' => by
        have hk0 := hk
        rw [hsc] at hk
        obtain ⟨k', e, r⟩ := lookup_relS hk
        have no : ¬ (k' = .local ∨ k' = .cell) := fun hh => by
          rcases ok.own _ (PySem.mem_of_lookup e) hh with e' | e'
          · obtain ⟨p, hp, hpy⟩ := List.mem_map.mp e'
            have e3 := ok.ix p hp
            have : p.1 = y := hpy
            rw [this] at e3
            exact hne (List.mem_map.mpr ⟨p, hp, nodup_ix hN e3 e1⟩)
          · exact e' (List.mem_of_getElem? e1)
        rcases r with rfl | ⟨rfl, rfl⟩
        · rcases hk' with rfl | rfl | rfl
          · exact absurd (.inl rfl) no
          · exact absurd (.inr rfl) no
          · exact ⟨e, .inr hk0⟩
        · exact ⟨e, .inl hk0⟩
      have e3 : Vis cenv.scope y := e3
      rcases e3 with e3 | e3 | e3
      · exact key _ e3 (.inl rfl)
      · exact key _ e3 (.inr (.inl rfl))
      · exact key _ e3 (.inr (.inr rfl))
    obtain ⟨m, hn, hl⟩ := I.loc
    have hvis : Vis X.env.scope y := (ok.free _ (PySem.mem_of_lookup hfr.1) rfl).elim (fun k => .inr (.inl k)) (fun k => .inr (.inr k))
    obtain ⟨w, r, q⟩ := hl i y av e1 e2 hvis
    refine ⟨w, r, .inr ⟨hfr.2, ?_⟩⟩
    obtain ⟨c, h1, h2⟩ := look hfr.1
    rcases q with ⟨k, _⟩ | ⟨_, c', e', z⟩
    · have k : X.env.scope.names.lookup y = some .local := k
      rcases ok.free _ (PySem.mem_of_lookup hfr.1) rfl with k' | k' <;> rw [show X.env.scope.names.lookup y = _ from k'] at k <;> cases k
    · rw [h2] at e'; cases e'
      exact ⟨c, h1, z.keeps kp⟩
  · have e : cenv.cells.lookup y = some c := e
    rcases mem e with ⟨h1, _⟩ | ⟨_, z⟩
    · obtain ⟨w, z⟩ := I.cell y c h1
      exact ⟨w, z.keeps kp⟩
    · exact ⟨_, z⟩
  · show H cenv.locals = none
    rw [hL]; exact I.hok.fresh (Nat.le_refl _)
  · have e : cenv.cells.lookup y = some c := e
    rcases mem e with ⟨h1, _⟩ | ⟨h1, _⟩
    · exact I.freeC y c h1
    · exact I.hok.fresh (Nat.le_of_succ_le h1)
  · exact absurd (show p ∈ ([] : List (Addr × Obj)) ++ [] from hp) (by simp)

/-- an item appended to a tracked list -/
theorem app_ok {E : Value → Shared → Prop} {D : Addr} {xs : List V} {y : V} {v : Value} {Q : Value → Shared → Prop} (I : Inv X pins σ H s) (hD : H D = some (.lst xs)) (hz : xs.length < sizeLine) (r : RelV y v)
    (h : ∀ s', Inv X pins σ (upd H D (.lst (xs ++ [y]))) s' → Q .none s') : wpAny (model X.prog X.w) X.A (call (.builtin "list.append") [.ref D, v]) Q E s := by
  obtain ⟨hz', its, n, ri, e⟩ := I.hok D _ hD
  have hl := ri.length
  refine append_at (hsz := by rw [List.size_toArray]; omega) e fun h' sb ho' => ?_
  refine h { s with heap := h' } (I.write (t' := s.toks) (by rw [hD]; trivial) (.inl rfl) (fun b u hb q => (sb.2 b hb).trans q) ⟨_, ho'⟩ ⟨by rw [List.length_append]; exact hz, its ++ [v], n + 1, ri.append (.cons r .nil), ?_⟩)
  rw [ho']
  simp

/-- a clause's tests -/
def PTs (X : Cx) (ifs : List Expr) (t : TT) : Prop :=
  ∀ (pins : List (Addr × Obj)) (s : Shared) (σ : St) (H : Hp) (Q : Bool → Hp → Prop), Inv X pins σ H s → t σ H Q →
    wpAny (model X.prog X.w) X.A (forIn ifs true fun c r => if r = true then do let ok ← isTrue c X.env (eval c X.env); pure (ForInStep.yield ok) else pure (ForInStep.yield r)) (TP X pins σ Q) X.xe s
def tYes : TT := fun _ H Q => Q true H
theorem pts_nil : PTs X [] tYes := fun _ _ _ H _ I h => wpAny_tests_nil ⟨H, I, h⟩
theorem pts_one {c : Expr} {t : TT} (h : PT X c t) : PTs X [c] t := fun pins s σ H Q I hw => wpAny_tests_one (h pins s σ H Q I hw)
end

theorem thnF {α : Type} {t : Sem α} {Q Q' : α → Shared → Prop} {M : Model} {A : Around} {E : Value → Shared → Prop} {s : Shared} (h : wpAny M A t Q (fun _ _ => False) s) (hQ : ∀ a s, Q a s → Q' a s) : wpAny M A t Q' E s := wpAny_mono h hQ fun _ _ z => False.elim z

/-- the loop of a list comprehension's block, the target of any form (codeAny_compLoop_tests asks a target that no tuple goes to; statement and proof follow it, PyProof/CompMap.lean:41-61, with the step letOwnedTupleGo kept) -/
theorem compLoop_any {prog : Program} {w : World} {A : Around} {R : Result → Shared → Prop} {s : Shared} {elt target iter : Expr} {ifs : List Expr} {scope : Scope} {pos : Pos} {it acc : Value} {env : Env} (I : Nat → Shared → Prop)
    (turn : ∀ n s, I n s → wpAny (model prog w) A (pyNext it) (fun r s₁ => match r with
      | none => R (.ok .next) s₁
      | some v => wpAny (model prog w) A (letOwnedTupleGo target it v) (fun _ s₁' => wpAny (model prog w) A (assign target env v) (fun _ s₂ =>
          wpAny (model prog w) A (forIn ifs true fun c r => if r = true then do let ok ← isTrue c env (eval c env); pure (ForInStep.yield ok) else pure (ForInStep.yield r)) (fun ok s₃ =>
            if ok = true then wpAny (model prog w) A (eval elt env) (fun x s₄ =>
              wpAny (model prog w) A (call (.builtin "list.append") [acc, x]) (fun _ s₅ => ∃ m, m < n ∧ I m s₅) (notedBy (model prog w) A env fun e s' => R (.error e) s') s₄) (notedBy (model prog w) A env fun e s' => R (.error e) s') s₃
            else ∃ m, m < n ∧ I m s₃) (notedBy (model prog w) A env fun e s' => R (.error e) s') s₂) (notedBy (model prog w) A env fun e s' => R (.error e) s') s₁') (notedBy (model prog w) A env fun e s' => R (.error e) s') s₁) (notedBy (model prog w) A env fun e s' => R (.error e) s') s)
    (n : Nat) (h : I n s) :
    codeAny (model prog w) A (.compLoop (.ListComp elt [⟨target, iter, ifs, 0⟩] scope pos) 0 it acc env) R s := by
  refine codeAny_loop rfl I (fun n s hI => ?_) n h
  show wpAny _ A ((compTurn (.ListComp elt [⟨target, iter, ifs, 0⟩] scope pos) 0 it acc env).onRaise (fun x => do noteFrame x env; theTreesLotGoes x)) _ _ s
  refine wpAny_noted ?_
  rw [compTurn_list]
  refine wpAny_bind (wpAny_standAt (wpAny_bind (wpAny_mono (turn n s hI) (fun r s₁ h₁ => ?_) fun _ _ h' => h')))
  cases r with
  | none => exact wpAny_pure h₁
  | some v =>
    refine wpAny_bind (wpAny_mono h₁ (fun _ s₁' h₁' => ?_) fun _ _ h' => h')
    refine wpAny_bind (wpAny_mono h₁' (fun _ s₂ h₂ => wpAny_bind (wpAny_mono h₂ (fun ok s₃ h₃ => ?_) fun _ _ h' => h')) fun _ _ h' => h')
    cases ok with
    | false => exact wpAny_pure ⟨rfl, h₃⟩
    | true =>
      exact wpAny_bind (wpAny_bind (wpAny_mono h₃ (fun x s₄ h₄ => wpAny_bind (wpAny_mono h₄ (fun _ s₅ h₅ => wpAny_pure (wpAny_pure ⟨rfl, h₅⟩)) fun _ _ h' => h')) fun _ _ h' => h'))

section
variable {X : Cx}
/-- [elt for target in iter if ..]: D the new list; W by the turn and a measure, Nx what a turn is to reach -/
def tLc (wi : TI) (g : TG) (tt : TT) (te : TE) (vs : List Nat) : TE := fun σ H Q => wi σ H fun J H1 => ∀ D, H1 D = none → ∃ W : Nat → Nat → Hp → Prop, (∃ m, W 0 m (upd H1 D (.lst []))) ∧ ∀ i m H, W i m H →
  (J.stop i H ∧ Q (.ref D) H) ∨ (J.go i H ∧ ∃ Nx : Hp → Prop, (∀ H', Nx H' → ∃ m', m' < m ∧ W (i + 1) m' H') ∧ ∀ x H', J.yld i H x H' → g x (wipe σ vs) H' fun σ2 H2 => wipe σ2 vs = wipe σ vs ∧ tt σ2 H2 fun b H3 =>
    if b = true then te σ2 H3 fun y H4 => ∃ acc, H4 D = some (.lst acc) ∧ acc.length < sizeLine ∧ Nx (upd H4 D (.lst (acc ++ [y]))) else Nx H3)
theorem lc_core {pins : List (Addr × Obj)} {s : Shared} {σ : St} {H : Hp} {Q : VK} {elt tg iter : Expr} {ifs : List Expr} {scope : Scope} {own : List (Str × Nat)} {pos pos' : Pos} {wi : TI} {g : TG} {tt : TT} {te : TE} {use : Option (Value → Sem Unit)} {Qf : Value → Shared → Prop}
    (hc : X.calm = true) (hN : X.N.Nodup) (I : Inv X pins σ H s) (hi : PI X tg iter wi) (ok : BlkOk X.N X.env.scope scope own)
    (hg : ∀ (s : Shared) (H : Hp) (C : Addr) (cl : List (Str × Addr)) (fp : List Addr), PG (X.blk s H scope (compEnvC scope cl C X.env) fp) tg g) (ht : ∀ (s : Shared) (H : Hp) (C : Addr) (cl : List (Str × Addr)) (fp : List Addr), PTs (X.blk s H scope (compEnvC scope cl C X.env) fp) ifs tt)
    (he : ∀ (s : Shared) (H : Hp) (C : Addr) (cl : List (Str × Addr)) (fp : List Addr), PE (X.blk s H scope (compEnvC scope cl C X.env) fp) elt te) (hs : ∀ x, foldedSetIterable iter X.env x = pure x)
    (h : tLc wi g tt te (own.map (·.2)) σ H Q)
    (hRR : ∀ D C s' m H', Inv X pins σ H' s' → Q (.ref D) H' → s'.heap.Ns C m → FpOk X pins H' C → compPost (model X.prog X.w) X.A X.xe use Qf (.ref D) C (.ok .next) s') :
    wpAny (model X.prog X.w) X.A (comprehension (.ListComp elt [⟨tg, iter, ifs, 0⟩] scope pos) scope X.env pos' (newList []) false (eval iter X.env) use) Qf X.xe s := by
  have hfree : ∀ y ∈ scope.names, y.2 = .free → ∃ c, X.env.cells.lookup y.1 = some c := fun y hy e => by
    rcases ok.free y hy e with k | k
    · exact I.ok.has _ (.inl k)
    · exact I.ok.has _ (.inr k)
  refine wpAny_comprehension_free (use := use) rfl hs (closure_ok hfree) ok.kind (fun y hy e => by rw [ok.uniq y hy, e])
    (thn (hi pins s σ H _ I h) fun xv s1 hx => thn hx fun itv s2 h2 => ?_)
  obtain ⟨it, fp, tn, J, H2, e, I2, T, st2, f2, q⟩ := h2
  subst e
  refine wpAny_newObj_type (newEnv_comp ?_) (by show 0 ≤ sizeLine; decide)
  generalize hD : s2.heap.objs.size = D
  have hDn : H2 D = none := I2.hok.fresh (Nat.le_of_eq hD)
  obtain ⟨W, ⟨m0, w0⟩, turn⟩ := q D hDn
  -- the new list
  generalize hs3 : ({ s2 with heap := s2.heap.push { cls := .type "list", data := .seq ([] : List Value).toArray } } : Shared) = s3
  have I3 : Inv X pins σ (upd H2 D (.lst [])) s3 := by
    rw [← hs3]
    refine I2.laid (t' := s2.toks) (fun b o e => Heap.get?_push_of_some _ e) (Nat.le_of_eq hD) ⟨Nat.zero_le _, [], 0, .nil, ?_⟩
    rw [← hD]
    exact Heap.get?_push_size _ rfl
  have h3 : s3.heap = s2.heap.push { cls := .type "list", data := .seq ([] : List Value).toArray } := by rw [← hs3]
  have sz : ∀ b ∈ fp, b < s2.heap.objs.size := fun b hb => by
    obtain ⟨o, e, _⟩ := T.obj _ _ st2 b hb
    exact Heap.lt_size e
  have f3 : ∀ b ∈ fp, FpOk X pins (upd H2 D (.lst [])) b ∧ b < s3.heap.objs.size := fun b hb => by
    have hlt := sz b hb
    refine ⟨⟨?_, (f2 b hb).2⟩, by rw [h3, Heap.size_push]; exact Nat.lt_succ_of_lt hlt⟩
    rw [upd_ne (by rw [← hD]; exact Nat.ne_of_lt hlt)]
    exact (f2 b hb).1
  have st3 : tn 0 s3.heap := T.keep _ _ _ st2 fun b _ o e => by rw [h3]; exact Heap.get?_push_of_some _ e
  have I4 := block_start I3 ok hN f3
  have pg := hg s3 (upd H2 D (.lst [])) s3.heap.objs.size (cellsFrom (s3.heap.objs.size + 1) scope.names (cloFrom X.env.cells scope.names [])) fp
  have pt := ht s3 (upd H2 D (.lst [])) s3.heap.objs.size (cellsFrom (s3.heap.objs.size + 1) scope.names (cloFrom X.env.cells scope.names [])) fp
  have pe := he s3 (upd H2 D (.lst [])) s3.heap.objs.size (cellsFrom (s3.heap.objs.size + 1) scope.names (cloFrom X.env.cells scope.names [])) fp
  show codeAny _ _ (.compStart (.ListComp elt [⟨tg, iter, ifs, 0⟩] scope pos) 0 (.ref it) (.ref D) (compEnvC scope (cellsFrom (s3.heap.objs.size + 1) scope.names (cloFrom X.env.cells scope.names [])) s3.heap.objs.size X.env)) (compPost (model X.prog X.w) X.A X.xe use Qf (.ref D) s3.heap.objs.size) { s3 with heap := pushCells (s3.heap.push { cls := .type "dict", data := .dict #[] }) scope.names }
  have nfp : ∀ b ∈ fp, (upd H2 D (.lst [])) b = none := fun b hb => (f3 b hb).1.1
  generalize hce : compEnvC scope (cellsFrom (s3.heap.objs.size + 1) scope.names (cloFrom X.env.cells scope.names [])) s3.heap.objs.size X.env = ce at I4 pg pt pe ⊢
  have cL : ce.locals = s3.heap.objs.size := by subst hce; rfl
  generalize hH3 : upd H2 D (.lst []) = H3 at I3 I4 pg pt pe w0 nfp f3
  generalize hs4 : ({ s3 with heap := pushCells (s3.heap.push { cls := .type "dict", data := .dict #[] }) scope.names } : Shared) = s4 at I4 ⊢
  have st4 : tn 0 s4.heap := T.keep _ _ _ st3 fun b _ o e => by rw [← hs4]; exact pushCells_keeps _ _ _ _ (Heap.get?_push_of_some _ e)
  have stat : ∀ {σ' : St} {H' : Hp} {s' : Shared}, Inv (X.blk s3 H3 scope ce fp) [] σ' H' s' → (∀ b ∈ fp, H' b = none) → ∀ b ∈ fp, FpOk (X.blk s3 H3 scope ce fp) [] H' b := fun {σ' H' s'} I' hn b hb =>
    ⟨hn b hb, (I'.ok.exf b hb).1, I'.ok.exfs b hb, .inl hb, fun x c e => (I'.ok.exf b hb).2 x c e, fun p hp => absurd (show p ∈ ([] : List (Addr × Obj)) ++ [] from hp) (by simp)⟩
  have loop : codeAny (model X.prog X.w) X.A (.compLoop (.ListComp elt [⟨tg, iter, ifs, 0⟩] scope pos) 0 (.ref it) (.ref D) ce) (compPost (model X.prog X.w) X.A X.xe use Qf (.ref D) s3.heap.objs.size) s4 := by
    refine compLoop_any (fun n s' => ∃ i H', Inv (X.blk s3 H3 scope ce fp) [] (wipe σ (own.map (·.2))) H' s' ∧ tn i s'.heap ∧ (∀ b ∈ fp, H' b = none) ∧ W i n H') ?_ m0 ⟨0, H3, I4, st4, nfp, w0⟩
    rintro n s5 ⟨i, H5, I5, st5, n5, w5⟩
    rcases turn i n H5 w5 with ⟨stop, qq⟩ | ⟨go, Nx, hNx, step⟩
    · have td := T.done (X.blk s3 H3 scope ce fp) rfl rfl rfl hc i [] s5 _ H5 (fun _ _ => False) I5 (stat I5 n5) st5 stop
      refine thnF td fun r s6 ⟨hr, I6⟩ => ?_
      subst hr
      -- back in the def's context
      have I7 : Inv X pins σ H5 s6 := I3.call' (ch := fp) I6.os I6.base I6.hok I6.bare fun b hb => ⟨(f3 b hb).1.2.2.2.1, (f3 b hb).1.2.1, (f3 b hb).1.2.2.2.2.1, (f3 b hb).1.2.2.2.2.2⟩
      have nC : H5 s3.heap.objs.size = none := by
        have z : H5 ce.locals = none := I6.free
        rw [cL] at z
        exact z
      obtain ⟨m, hn, _⟩ := I6.loc
      have hn : s6.heap.Ns ce.locals m := hn
      rw [cL] at hn
      exact hRR D s3.heap.objs.size s6 m H5 I7 qq hn (I3.fpOk (Nat.le_refl _) nC)
    · have ti := T.item (X.blk s3 H3 scope ce fp) rfl rfl rfl hc i [] s5 _ H5 (fun _ _ => False) I5 (stat I5 n5) st5 go
      refine thnF ti fun r s6 ⟨u, hr, h6⟩ => ?_
      subst hr
      refine thnF h6 fun _ s7 ⟨x, H7, I7, r7, y7, st7, n7⟩ => ?_
      have I7' := I7.pinned (stat I7 n7) (T.obj _ _ st7)
      refine thnF (pg _ s7 _ H7 x u _ I7' r7 (step x H7 y7)) fun _ s8 ⟨σ8, H8, I8, hw8, q8⟩ => ?_
      refine thnF (pt _ s8 σ8 H8 _ I8 q8) fun b s9 ⟨H9, I9, q9⟩ => ?_
      -- the turn's end
      have fin : ∀ {s' : Shared} {H' : Hp}, Inv (X.blk s3 H3 scope ce fp) ([] ++ pinsAt fp s7.heap) σ8 H' s' → Nx H' → ∃ m, m < n ∧ ∃ i H', Inv (X.blk s3 H3 scope ce fp) [] (wipe σ (own.map (·.2))) H' s' ∧ tn i s'.heap ∧ (∀ b ∈ fp, H' b = none) ∧ W i m H' := fun {s' H'} I' nx => by
        obtain ⟨m', hm, w'⟩ := hNx H' nx
        have pin' : ∀ b ∈ fp, ∀ o, s7.heap.get? b = some o → s'.heap.get? b = some o ∧ H' b = none := fun b hb o e =>
          let z := I'.pin (b, o) (List.mem_append_right _ (List.mem_append_right _ (mem_pinsAt hb e)))
          ⟨z.1, z.2.1⟩
        have hl : (wipe σ (own.map (·.2))).length = σ8.length := by rw [← hw8, wipe_length]
        refine ⟨m', hm, i + 1, H', (I'.unpinned (pins := [])).weak hl (fun j v e => ?_), T.keep _ _ _ st7 fun b hb o e => (pin' b hb o e).1, fun b hb => ?_, w'⟩
        · rw [← hw8] at e
          exact (wipe_some e).1
        · obtain ⟨o, e, _⟩ := T.obj _ _ st7 b hb
          exact (pin' b hb o e).2
      cases b with
      | false =>
        simp only [Bool.false_eq_true, if_false] at q9 ⊢
        exact fin I9 q9
      | true =>
        simp only [if_true] at q9 ⊢
        refine thnF (pe _ s9 σ8 H9 _ I9 q9) fun z s10 ⟨yv, H10, I10, r10, acc, hD10, hz10, nx⟩ => ?_
        exact app_ok (X := X.blk s3 H3 scope ce fp) I10 hD10 hz10 r10 fun s11 I11 => fin I11 nx
  exact codeAny_compStart_list loop (T.self X.A 0 _ _ _ st4 loop)
/-- as a value -/
theorem pe_lc {elt tg iter : Expr} {ifs : List Expr} {scope : Scope} {own : List (Str × Nat)} {pos : Pos} {wi : TI} {g : TG} {tt : TT} {te : TE} (hc : X.calm = true) (hN : X.N.Nodup) (hi : PI X tg iter wi) (ok : BlkOk X.N X.env.scope scope own)
    (hg : ∀ (s : Shared) (H : Hp) (C : Addr) (cl : List (Str × Addr)) (fp : List Addr), PG (X.blk s H scope (compEnvC scope cl C X.env) fp) tg g) (ht : ∀ (s : Shared) (H : Hp) (C : Addr) (cl : List (Str × Addr)) (fp : List Addr), PTs (X.blk s H scope (compEnvC scope cl C X.env) fp) ifs tt)
    (he : ∀ (s : Shared) (H : Hp) (C : Addr) (cl : List (Str × Addr)) (fp : List Addr), PE (X.blk s H scope (compEnvC scope cl C X.env) fp) elt te) (hs : ∀ x, foldedSetIterable iter X.env x = pure x := by intro _; rfl) :
    PE X (.ListComp elt [⟨tg, iter, ifs, 0⟩] scope pos) (tLc wi g tt te (own.map (·.2))) := by
  intro pins s σ H Q I h
  rw [eval_ListComp]
  refine lc_core hc hN I hi ok hg ht he hs h fun D C s' m H' I' q hn f => ⟨m, hn, fun h'' sb => ?_⟩
  obtain ⟨f0, f1, f2, f3, f4, f5⟩ := f
  exact ⟨.ref D, H', I'.turned (t' := s'.toks) (fun b o hb e => (sb.2 b hb).trans e) f0 f1 f3 f4 f5, rfl, q⟩
/-- name = [..] on one line, the name a local -/
theorem ps_setLc {i : Nat} {y : Str} {py : Pos} {elt tg iter : Expr} {ifs : List Expr} {scope : Scope} {own : List (Str × Nat)} {pos spos : Pos} {wi : TI} {g : TG} {tt : TT} {te : TE} (hc : X.calm = true) (hN : X.N.Nodup) (hy : X.N[i]? = some y) (hyl : X.env.scope.names.lookup y = some .local)
    (hsw : swapsWith (.ListComp elt [⟨tg, iter, ifs, 0⟩] scope pos) (some (.Name y py)) spos.line X.env = pure true) (hi : PI X tg iter wi) (ok : BlkOk X.N X.env.scope scope own)
    (hg : ∀ (s : Shared) (H : Hp) (C : Addr) (cl : List (Str × Addr)) (fp : List Addr), PG (X.blk s H scope (compEnvC scope cl C X.env) fp) tg g) (ht : ∀ (s : Shared) (H : Hp) (C : Addr) (cl : List (Str × Addr)) (fp : List Addr), PTs (X.blk s H scope (compEnvC scope cl C X.env) fp) ifs tt)
    (he : ∀ (s : Shared) (H : Hp) (C : Addr) (cl : List (Str × Addr)) (fp : List Addr), PE (X.blk s H scope (compEnvC scope cl C X.env) fp) elt te) (hs : ∀ x, foldedSetIterable iter X.env x = pure x := by intro _; rfl) :
    PS X (.Assign [.Name y py] (.ListComp elt [⟨tg, iter, ifs, 0⟩] scope pos) spos) (tAsg (tLc wi g tt te (own.map (·.2))) (gName i)) := by
  intro pins s σ H D I h
  rw [exec_Assign_Name_used _ _ _ _ hsw]
  refine wpAny_bind (wpAny_standAt (wpAny_bind ?_))
  show wpAny _ X.A (do let _ ← comprehension (.ListComp elt [⟨tg, iter, ifs, 0⟩] scope pos) scope X.env (firstIterPos [⟨tg, iter, ifs, 0⟩] pos) (newList []) false (eval iter X.env) (some (assign (.Name y py) X.env))) _ _ s
  have h : tLc wi g tt te (own.map (·.2)) σ H (fun x H1 => gName i x σ H1 D.nx) := h
  refine wpAny_bind (thn (lc_core (Qf := fun _ s' => SP X pins D .next s') hc hN I hi ok hg ht he hs h fun L C s' m H' I' q hn f => ?_) fun _ s' hq => wpAny_pure (wpAny_pure hq))
  show wpAny _ _ (assign (.Name y py) X.env (.ref L)) _ _ _
  refine wpAny_assign_Name (store_ok2 (v := V.ref L) I' hN hy (.inl hyl) rfl (fun s2 I2 ⟨a, sb, ha⟩ => ?_) (.inr hyl))
  obtain ⟨f0, f1, f2, f3, f4, f5⟩ := f
  have haC : C ≠ a := by
    rcases ha with z | z
    · rw [z]; exact f1
    · exact fun e => f4 y a z e.symm
  refine ⟨m, hn.sameBut sb haC, fun h3 sb3 => ?_⟩
  exact ⟨_, H', I2.turned (t' := s2.toks) (fun b o hb e => (sb3.2 b hb).trans e) f0 f1 f3 f4 f5, q⟩
theorem sw_true {elt : Expr} {gs : List Comprehension} {scope : Scope} {pos py : Pos} {y : Str} {l : Nat} {env : Env} (hk : env.scope.kind = .function) (hy : env.scope.names.lookup y = some .local) (hl : (py.line == pos.line) = true)
    (ha : (scope.names.any fun (n, k) => n == y && (k == .local || k == .cell)) = false) : swapsWith (.ListComp elt gs scope pos) (some (.Name y py)) l env = pure true := by
  have ky : env.kindOf y = some .local := hy
  have hb : env.blockKind = .function := by unfold Env.blockKind; rw [hk]; rfl
  unfold swapsWith
  simp only [hb, ky, ha, Expr.pos, hl]
  rfl
end

/-! ### the forms one uses -/
def blkC (N : List Str) (sc scope : Scope) (own : List (Str × Nat)) : Bool :=
  (match scope.kind with | .function => true | _ => false) && (scope.names.all fun y => decide (scope.names.lookup y.1 = some y.2)) && (own.all fun p => decide (N[p.2]? = some p.1)) &&
    (scope.names.all fun y => match y.2 with
      | .free => (match sc.names.lookup y.1 with | some .cell => true | some .free => true | _ => false)
      | .local => decide (y.1 ∈ own.map (·.1)) || decide (y.1 ∉ N)
      | .cell => decide (y.1 ∈ own.map (·.1)) || decide (y.1 ∉ N)
      | _ => true)
theorem blkOk_by {N : List Str} {sc scope : Scope} {own : List (Str × Nat)} (h : blkC N sc scope own = true) : BlkOk N sc scope own := by
  unfold blkC at h
  simp only [Bool.and_eq_true, List.all_eq_true, decide_eq_true_eq] at h
  obtain ⟨⟨⟨h1, h2⟩, h3⟩, h4⟩ := h
  refine ⟨?_, h2, h3, fun y hy e => ?_, fun y hy e => ?_⟩
  · split at h1
    · assumption
    · cases h1
  · have q := h4 y hy
    simp only [e] at q
    split at q <;> first | exact .inl (by assumption) | exact .inr (by assumption) | cases q
  · have q := h4 y hy
    rcases e with e | e <;> (simp only [e, Bool.or_eq_true, decide_eq_true_eq] at q; exact q)
end L2

namespace L2
open PySem PySem.Spec PyProof.Rows

section
variable {prog : Program} {w : World} {A : Around} {R : Result → Shared → Prop} {s : Shared} {elt t0 i0 t1 i1 : Expr} {ifs0 ifs1 : List Expr} {scope : Scope} {pos : Pos} {it acc : Value} {env : Env}
end

section
variable {X : Cx}
end
end L2

namespace L2
open PySem PySem.Spec PyProof.Rows

/-! ### lists of pairs as tables -/
section
variable {κ : Type} [DecidableEq κ]
def valV (kvs : List (κ × V)) (k : κ) : Option V := (kvs.find? fun kv => decide (kv.1 = k)).map (·.2)
/-- in its place, or at the end -/
def putK (kvs : List (κ × V)) (k : κ) (v : V) : List (κ × V) :=
  if (kvs.any fun kv => decide (kv.1 = k)) = true then kvs.map (fun kv => if kv.1 = k then (kv.1, v) else kv) else kvs ++ [(k, v)]
def dropK (kvs : List (κ × V)) (k : κ) : List (κ × V) := kvs.filter fun kv => decide (kv.1 ≠ k)

theorem valV_pos {p : κ × V} {r : List (κ × V)} {k : κ} (e : p.1 = k) : valV (p :: r) k = some p.2 := by simp [valV, List.find?_cons, e]
theorem valV_neg {p : κ × V} {r : List (κ × V)} {k : κ} (e : ¬ p.1 = k) : valV (p :: r) k = valV r k := by simp [valV, List.find?_cons, e]
theorem valV_any (k : κ) : ∀ kvs : List (κ × V), (kvs.any fun kv => decide (kv.1 = k)) = (valV kvs k).isSome
  | [] => rfl
  | p :: r => by
    rw [List.any_cons]
    by_cases e : p.1 = k
    · simp only [valV_pos e, decide_eq_true e, Bool.true_or, Option.isSome_some]
    · rw [valV_neg e, decide_eq_false e, Bool.false_or]; exact valV_any k r
theorem RelO.isSome_eq {o : Option V} {u : Option Value} (r : RelO o u) : o.isSome = u.isSome := by
  cases o with
  | none => cases u with
    | none => rfl
    | some _ => exact (show False from r).elim
  | some _ => cases u with
    | none => exact (show False from r).elim
    | some _ => rfl
theorem RelO.getD {o : Option V} {u : Option Value} {d : V} {d' : Value} (r : RelO o u) (rd : RelV d d') : RelV (o.getD d) (u.getD d') := by
  cases o with
  | none => cases u with
    | none => exact rd
    | some _ => exact (show False from r).elim
  | some _ => cases u with
    | none => exact (show False from r).elim
    | some _ => exact r

/-- raw tables of the same keys -/
theorem KV.val {kvs : List (κ × V)} {vs : List (κ × Value)} (r : KV kvs vs) (k : κ) : RelO (valV kvs k) (valueAt vs k) := by
  unfold KV at r
  induction r with
  | nil => exact True.intro
  | @cons p q ps qs h t ih =>
    obtain ⟨h1, h2⟩ := h
    by_cases e : p.1 = k
    · have e' : q.1 = k := h1.symm.trans e
      have b : valueAt (q :: qs) k = some q.2 := by simp [valueAt, List.find?_cons, e']
      rw [valV_pos e, b]; exact h2
    · have e' : ¬ q.1 = k := fun z => e (h1.trans z)
      have b : valueAt (q :: qs) k = valueAt qs k := by simp [valueAt, List.find?_cons, e']
      rw [valV_neg e, b]; exact ih
theorem KV.any {kvs : List (κ × V)} {vs : List (κ × Value)} (r : KV kvs vs) (k : κ) : (kvs.any fun kv => decide (kv.1 = k)) = vs.any fun kv => decide (kv.1 = k) := by
  unfold KV at r
  induction r with
  | nil => rfl
  | cons h t ih => rw [List.any_cons, List.any_cons, ih, h.1]
theorem KV.repl {kvs : List (κ × V)} {vs : List (κ × Value)} (r : KV kvs vs) (k : κ) {y : V} {u : Value} (ry : RelV y u) :
    KV (kvs.map fun kv => if kv.1 = k then (kv.1, y) else kv) (vs.map fun kv => if kv.1 = k then (kv.1, u) else kv) := by
  unfold KV at r ⊢
  induction r with
  | nil => exact .nil
  | @cons p q ps qs h t ih =>
    rw [List.map_cons, List.map_cons]
    refine .cons ?_ ih
    obtain ⟨h1, h2⟩ := h
    by_cases e : p.1 = k
    · rw [if_pos e, if_pos (h1.symm.trans e)]; exact ⟨h1, ry⟩
    · rw [if_neg e, if_neg (fun z => e (h1.trans z))]; exact ⟨h1, h2⟩
theorem KV.put {kvs : List (κ × V)} {vs : List (κ × Value)} (r : KV kvs vs) (k : κ) {y : V} {u : Value} (ry : RelV y u) : KV (putK kvs k y) (stored vs k u) := by
  unfold putK stored
  rw [r.any k]
  by_cases e : (vs.any fun kv => decide (kv.1 = k)) = true
  · rw [if_pos e, if_pos e]; exact r.repl k ry
  · rw [if_neg e, if_neg e]; exact Paired.snoc r ⟨rfl, ry⟩
theorem KV.drop {kvs : List (κ × V)} {vs : List (κ × Value)} (r : KV kvs vs) (k : κ) : KV (dropK kvs k) (without vs k) := by
  unfold KV at r ⊢
  unfold dropK without
  induction r with
  | nil => exact .nil
  | @cons p q ps qs h t ih =>
    obtain ⟨h1, h2⟩ := h
    rw [List.filter_cons, List.filter_cons]
    by_cases e : p.1 = k
    · have a : ¬ decide (p.1 ≠ k) = true := by simp [e]
      have b : ¬ decide (q.1 ≠ k) = true := by simp [h1.symm.trans e]
      rw [if_neg a, if_neg b]; exact ih
    · have e' : ¬ q.1 = k := fun z => e (h1.trans z)
      have a : decide (p.1 ≠ k) = true := by simp [e]
      have b : decide (q.1 ≠ k) = true := by simp [e']
      rw [if_pos a, if_pos b]; exact .cons ⟨h1, h2⟩ ih
theorem KV.keys {kvs : List (κ × V)} {vs : List (κ × Value)} (r : KV kvs vs) : kvs.map (·.1) = vs.map (·.1) := by
  unfold KV at r
  induction r with
  | nil => rfl
  | cons h t ih => rw [List.map_cons, List.map_cons, ih, h.1]
theorem KV.length {kvs : List (κ × V)} {vs : List (κ × Value)} (r : KV kvs vs) : kvs.length = vs.length := Paired.length r
end


/-! ### a tracked dict, its keys ints and texts or tuples of these -/
/-- raw entries of a dict with tuple keys -/
abbrev KT (H : Hp) : List (List Key × V) → List (List Key × Addr × Value) → Prop := Paired fun p q => p.1 = q.1 ∧ H q.2.1 = some (.tup (p.1.map kV)) ∧ RelV p.2 q.2.2
theorem KT.val {H : Hp} {kvs : List (List Key × V)} {xs : List (List Key × Addr × Value)} (r : KT H kvs xs) (k : List Key) : RelO (valV kvs k) ((atKey xs k).map (·.2)) := by
  induction r with
  | nil => exact True.intro
  | @cons p q ps qs h t ih =>
    obtain ⟨h1, _, h2⟩ := h
    by_cases e : p.1 = k
    · have e' : q.1 = k := h1.symm.trans e
      have b : atKey (q :: qs) k = some q.2 := by simp [atKey, List.find?_cons, e']
      rw [valV_pos e, b]; exact h2
    · have e' : ¬ q.1 = k := fun z => e (h1.trans z)
      have b : atKey (q :: qs) k = atKey qs k := by simp [atKey, List.find?_cons, e']
      rw [valV_neg e, b]; exact ih
theorem KT.repl {H : Hp} {kvs : List (List Key × V)} {xs : List (List Key × Addr × Value)} (r : KT H kvs xs) (k : List Key) {y : V} {u : Value} (ry : RelV y u) :
    KT H (kvs.map fun kv => if kv.1 = k then (kv.1, y) else kv) (xs.map (putAt k u)) := by
  induction r with
  | nil => exact .nil
  | @cons p q ps qs h t ih =>
    rw [List.map_cons, List.map_cons]
    refine .cons ?_ ih
    obtain ⟨h1, h2, h3⟩ := h
    unfold putAt
    by_cases e : p.1 = k
    · rw [if_pos e, if_pos (h1.symm.trans e)]; exact ⟨h1, h2, ry⟩
    · rw [if_neg e, if_neg (fun z => e (h1.trans z))]; exact ⟨h1, h2, h3⟩
theorem KT.put {H : Hp} {kvs : List (List Key × V)} {xs : List (List Key × Addr × Value)} (r : KT H kvs xs) (k : List Key) {b : Addr} {y : V} {u : Value} (hb : H b = some (.tup (k.map kV))) (ry : RelV y u) :
    KT H (putK kvs k y) (storedH xs k b u) := by
  have e : (kvs.any fun kv => decide (kv.1 = k)) = (atKey xs k).isSome := by
    rw [valV_any, (r.val k).isSome_eq, Option.isSome_map]
  unfold putK storedH
  rw [e]
  by_cases q : (atKey xs k).isSome = true
  · rw [if_pos q, if_pos q]; exact r.repl k ry
  · rw [if_neg q, if_neg q]; exact Paired.snoc r ⟨rfl, hb, ry⟩
theorem KT.keeps {H H' : Hp} {kvs : List (List Key × V)} {xs : List (List Key × Addr × Value)} (r : KT H kvs xs) (ht : ∀ b ys, H b = some (.tup ys) → H' b = some (.tup ys)) : KT H' kvs xs :=
  Paired.mapP r fun _ _ z => ⟨z.1, ht _ _ z.2.1, z.2.2⟩

section
variable {P : Program} {w : World} {H : Hp} {h : Heap} {a : Addr}
end

/-- what the dict at a holds at the key y -/
def DGet (H : Hp) (a : Addr) (y : V) (r : Option V) : Prop :=
  (∃ kvs k, Rd H a (.dK kvs) ∧ y = kV k ∧ r = valV kvs k) ∨ ∃ kvs k b, Rd H a (.dT kvs) ∧ y = .ref b ∧ H b = some (.tup (k.map kV)) ∧ r = valV kvs k
/-- the heap behind a[y] = v -/
def DPut (H : Hp) (a : Addr) (y v : V) (H' : Hp) : Prop :=
  (∃ kvs k, H a = some (.dK kvs) ∧ y = kV k ∧ kvs.length < sizeLine ∧ H' = upd H a (.dK (putK kvs k v))) ∨
  ∃ kvs k b, H a = some (.dT kvs) ∧ y = .ref b ∧ H b = some (.tup (k.map kV)) ∧ kvs.length < sizeLine ∧ H' = upd H a (.dT (putK kvs k v))
theorem DGet.k {H : Hp} {a : Addr} {kvs : List (Key × V)} {k : Key} (e : H a = some (.dK kvs)) : DGet H a (kV k) (valV kvs k) := .inl ⟨kvs, k, .inl e, rfl, rfl⟩
theorem DGet.t {H : Hp} {a b : Addr} {kvs : List (List Key × V)} {k : List Key} (e : H a = some (.dT kvs)) (eb : H b = some (.tup (k.map kV))) : DGet H a (.ref b) (valV kvs k) := .inr ⟨kvs, k, b, .inl e, rfl, eb, rfl⟩
theorem DPut.k {H : Hp} {a : Addr} {kvs : List (Key × V)} {k : Key} {v : V} (e : H a = some (.dK kvs)) (hl : kvs.length < sizeLine) : DPut H a (kV k) v (upd H a (.dK (putK kvs k v))) := .inl ⟨kvs, k, e, rfl, hl, rfl⟩
theorem DPut.t {H : Hp} {a b : Addr} {kvs : List (List Key × V)} {k : List Key} {v : V} (e : H a = some (.dT kvs)) (eb : H b = some (.tup (k.map kV))) (hl : kvs.length < sizeLine) :
    DPut H a (.ref b) v (upd H a (.dT (putK kvs k v))) := .inr ⟨kvs, k, b, e, rfl, eb, hl, rfl⟩


section
variable {X : Cx} {pins : List (Addr × Obj)} {σ : St} {H : Hp} {s : Shared} {a : Addr} {y v : V} {u r : Value} {o : Option V} {A : Around} {E : Value → Shared → Prop}

end

section
variable {X : Cx} {pins : List (Addr × Obj)} {σ : St} {H : Hp} {s : Shared} {a : Addr} {kvs : List (Key × V)} {k : Key} {u : Value} {A : Around} {E : Value → Shared → Prop}
end


/-! ### readings and rules -/
section
variable {X : Cx} {o i e value : Expr} {pos pos' tpos : Pos} {td ty tv : TE}
end


/-! ### displays -/
section
variable {X : Cx} {pos : Pos}
end

/-! ### methods -/
/-- a method call o.m(e) of a built-in, with one argument: what must be seen of the text -/
structure M1 (X : Cx) (o : Expr) (m : Str) (apos : Pos) (e : Expr) (cpos : Pos) : Prop where
  base : attributeBase o m X.env (eval o X.env) = eval o X.env
  few : ((backTo cpos (starEach [e] X.env)).all (fun x => !x.1) && (backToKw cpos (keywordEach [] X.env)).all (fun x => x.1.isSome)
    && decide (([e] : List Expr).length + ([] : List Keyword).length + (if ([] : List Keyword).isEmpty then 0 else 1) < 30)) = true
  line : (apos.endLine == cpos.line) = true
  trees : backTo cpos (starEach [e] X.env) = [(false, eval e X.env)]
structure M2 (X : Cx) (o : Expr) (m : Str) (apos : Pos) (e f : Expr) (cpos : Pos) : Prop where
  base : attributeBase o m X.env (eval o X.env) = eval o X.env
  few : ((backTo cpos (starEach [e, f] X.env)).all (fun x => !x.1) && (backToKw cpos (keywordEach [] X.env)).all (fun x => x.1.isSome)
    && decide (([e, f] : List Expr).length + ([] : List Keyword).length + (if ([] : List Keyword).isEmpty then 0 else 1) < 30)) = true
  line : (apos.endLine == cpos.line) = true
  trees : backTo cpos (starEach [e, f] X.env) = [(false, eval e X.env), (false, eval f X.env)]

section
variable {X : Cx} {pins : List (Addr × Obj)} {σ : St} {H : Hp} {s : Shared} {a : Addr} {y d : V} {u r : Value} {o : Option V} {A : Around} {E : Value → Shared → Prop}
end

section
variable {X : Cx} {o e f : Expr} {apos cpos : Pos} {td ty tx : TE}
end

/-! ### dict(d): a copy -/
section
variable {X : Cx} {pins : List (Addr × Obj)} {σ : St} {H : Hp} {s : Shared} {a : Addr} {kvs : List (Key × V)} {A : Around} {E : Value → Shared → Prop}
end


section
variable {X : Cx} {pins : List (Addr × Obj)} {σ : St} {H : Hp} {s : Shared} {a : Addr} {y : V} {u : Value} {A : Around} {E : Value → Shared → Prop}
end
end L2

namespace L2
open PySem PySem.Spec PyProof.Rows

section
variable {prog : Program} {w : World} {A : Around} {E : Value → Shared → Prop}
end

section
variable {X : Cx}
end
end L2

namespace L2
open PySem PySem.Spec PyProof.Rows

section
variable {X : Cx} {pins : List (Addr × Obj)} {σ : St} {H : Hp} {s : Shared} {h' : Heap}
/-- several records of ours have turned -/
theorem Inv.turnedL {t' : Nat} {ch : List Addr} (I : Inv X pins σ H s) (k : ∀ b o, b ∉ ch → s.heap.get? b = some o → h'.get? b = some o) (hf : ∀ b ∈ ch, FpOk X pins H b) : Inv X pins σ H { s with heap := h', toks := t' } := by
  have nit : ∀ b u, H b = some u → b ∉ ch := fun b u e z => by
    have q := (hf b z).1
    rw [q] at e; cases e
  refine I.step (g' := s.gens) (d' := s.drawn) (ch := ch) (fun b hb => ⟨(hf b hb).2.2.2.1, (hf b hb).2.1, (hf b hb).2.2.2.2.1, (hf b hb).2.2.2.2.2⟩) (fun b o _ _ hc e _ => k b o hc e) (fun b o _ _ hc e _ => ⟨o.slots, k b o hc e⟩)
    (fun _ _ _ _ n => n) (fun b o hc e => ⟨o, k b o hc e⟩) (fun _ _ e => e) (fun _ _ _ e => e) (fun b ps e => ⟨#[], by rw [e]; simp⟩) (fun m hm => ?_) (fun b u e => ?_) I.bare
  · obtain ⟨o, es, ep, ho, r⟩ := hm
    exact ⟨o, es, ep, k _ o (fun z => (hf _ z).2.1 rfl) ho, r⟩
  · refine (I.hok b u e).stay (fun c v hc q => k c v ?_ q) (fun _ q => q) fun _ _ q => q
    rcases hc with z | z
    · rw [z]; exact nit b u e
    · exact nit c _ z
/-- .. and one new object is laid -/
theorem Inv.turnedNew {t' : Nat} {ch : List Addr} {T : Addr} {ob : HO} (I : Inv X pins σ H s) (k : ∀ b o, b ∉ ch → s.heap.get? b = some o → h'.get? b = some o) (hf : ∀ b ∈ ch, FpOk X pins H b) (hT : s.heap.objs.size ≤ T)
    (new : ObjOk X.prog X.w (upd H T ob) h' T ob) : Inv X pins σ (upd H T ob) { s with heap := h', toks := t' } := by
  have hn : H T = none := I.hok.fresh hT
  have nit : ∀ b u, H b = some u → b ∉ ch := fun b u e z => by
    have q := (hf b z).1
    rw [q] at e; cases e
  refine I.step (g' := s.gens) (d' := s.drawn) (ch := ch) (fun b hb => ⟨(hf b hb).2.2.2.1, (hf b hb).2.1, (hf b hb).2.2.2.2.1, (hf b hb).2.2.2.2.2⟩) (fun b o _ _ hc e _ => k b o hc e) (fun b o _ _ hc e _ => ⟨o.slots, k b o hc e⟩)
    (fun b o _ e n => ?_) (fun b o hc e => ⟨o, k b o hc e⟩) (fun b xs e => ?_) (fun b o u e => ?_) (fun b ps e => ⟨#[], ?_⟩) (fun m hm => ?_) (fun b u e => ?_) I.bare
  · rw [upd_ne (Nat.ne_of_lt (Nat.lt_of_lt_of_le (Heap.lt_size e) hT))]; exact n
  · rw [upd_ne (ne_of_none e hn)]; exact e
  · rw [upd_ne (ne_of_none e hn)]; exact e
  · rw [upd_ne (ne_of_none e hn), e]; simp
  · obtain ⟨o, es, ep, ho, r⟩ := hm
    exact ⟨o, es, ep, k _ o (fun z => (hf _ z).2.1 rfl) ho, r⟩
  · by_cases hb : b = T
    · subst hb
      rw [upd_same] at e
      cases e
      exact new
    · rw [upd_ne hb] at e
      refine (I.hok b u e).stay (fun c v hc q => k c v ?_ q) (fun c q => by rw [upd_ne (ne_of_none q hn)]; exact q) fun c xs q => by rw [upd_ne (ne_of_none q hn)]; exact q
      rcases hc with z | z
      · rw [z]; exact nit b u e
      · exact nit c _ z

/-! ### locking a thing while a statement runs -/
end
section
variable {X : Cx}
/-! ### one iterator just laid -/
end

/-! ### range with a step -/
/-- lo, lo + c, .. (n of them) -/
def Itc (lo c : Int) (n : Nat) : It := ⟨fun i _ => i < n, fun i H x H' => H' = H ∧ x = .int (lo + (i : Nat) * c), fun i _ => n ≤ i⟩
/-- range(i, j, c): small bounds, n items -/
def RgC (i j c : Int) (n : Nat) : Prop := c ≠ 0 ∧ c.natAbs < 1073741824 ∧ Builtin.Range.small i j c = true ∧ Builtin.Range.rangeSize i j c = n
theorem RgC.neg {i j : Int} (ha : -(2 ^ 62) ≤ i) (ha' : i < 2 ^ 62) (hb : -(2 ^ 62) ≤ j) (hb' : j < 2 ^ 62) : RgC i j (-1) (i - j).toNat :=
  ⟨by decide, by decide, PySem.W.small_down ha ha' hb hb', PySem.W.rangeSize_downNat i j⟩
def iRng3 (ta : TA) : TI := fun σ H R => ta σ H fun vs H1 => ∃ (i j c : Int) (n : Nat), vs = [.int i, .int j, .int c] ∧ RgC i j c n ∧ R (Itc i c n) H1
section
variable {X : Cx} {tg : Expr}
end
/-- the turns of a step range, for the for loop -/
theorem for_rangeC {lo c : Int} {n : Nat} {g : TG} {tb : TS} {D : Ends} {σ : St} {H : Hp} (Pv : Nat → St → Hp → Prop) (h0 : Pv 0 σ H)
    (hs : ∀ i σ H, i < n → Pv i σ H → g (.int (lo + (i : Nat) * c)) σ H fun σ2 H2 => tb { D with nx := Pv (i + 1), ct := Pv (i + 1), bk := D.nx } σ2 H2) (hd : ∀ σ H, Pv n σ H → D.nx σ H) :
    ∃ W : Nat → Nat → St → Hp → Prop, (∃ m, W 0 m σ H) ∧ ∀ i m σ H, W i m σ H →
      ((Itc lo c n).stop i H ∧ D.nx σ H) ∨ ((Itc lo c n).go i H ∧ ∃ N : St → Hp → Prop, (∀ σ' H', N σ' H' → ∃ m', m' < m ∧ W (i + 1) m' σ' H') ∧ ∀ x H', (Itc lo c n).yld i H x H' → g x σ H' fun σ2 H2 => tb { D with nx := N, ct := N, bk := D.nx } σ2 H2) := by
  refine ⟨fun i m σ H => m = n - i ∧ i ≤ n ∧ Pv i σ H, ⟨n, by simp, Nat.zero_le _, h0⟩, ?_⟩
  rintro i m σ H ⟨rfl, hi, p⟩
  by_cases hlt : i < n
  · refine .inr ⟨hlt, Pv (i + 1), fun σ' H' p' => ⟨n - (i + 1), by omega, rfl, hlt, p'⟩, fun x H' y => ?_⟩
    obtain ⟨e, y⟩ := y
    subst e y
    exact hs i σ _ hlt p
  · have e : i = n := by omega
    subst e
    exact .inl ⟨Nat.le_refl _, hd σ H p⟩

/-! ### reversed(list) -/
section
variable {X : Cx} {tg : Expr}
end

/-! ### a str -/
/-! ### a dict's keys: any dict's entries -/
section
variable {prog : Program} {w : World} {A : Around} {E : Value → Shared → Prop} {s : Shared}
end

/-! ### a locked dict -/
section
variable {X : Cx} {pins : List (Addr × Obj)} {σ : St} {H : Hp} {s : Shared} {d : Addr} {o : Obj}
end

section
variable {P : Program} {w : World} {K : PySem.W.Frag} {tg : Expr} {d : Addr} {o : Obj} {es : Array DictEntry} {ep : Nat}
end

/-! ### for k in d, d.keys(), d.values(), d.items() -/
section
variable {X : Cx} {tg e : Expr} {td : TE} {apos cpos : Pos}
end

/-! ### enumerate(list) -/
/-! ### zip(list, list) -/
theorem boot_zip5 : bootBuiltins "zip" = some (.type "zip") := by decide +kernel
/-- the lists at a and b as they stand at each turn, the items in new pairs -/
def Itz (K : PySem.W.Frag) (a b : Addr) : It :=
  ⟨fun i H => ∃ (xs ys : List V) (x y : V), SqL K H a xs ∧ SqL K H b ys ∧ xs[i]? = some x ∧ ys[i]? = some y,
    fun i H v H' => ∃ T x y, v = .ref T ∧ H T = none ∧ H' = upd H T (.tup [x, y]) ∧ (∀ xs, SqL K H a xs → xs[i]? = some x) ∧ ∀ ys, SqL K H b ys → ys[i]? = some y,
    fun i H => ∃ xs ys : List V, SqL K H a xs ∧ SqL K H b ys ∧ (xs.length ≤ i ∨ ys.length ≤ i)⟩
theorem turn_zip {P : Program} {w : World} {K : PySem.W.Frag} {elts : List Expr} {kk : Nat} {tpos : Pos} {a b z TI TO i1 i2 : Addr} (D : ZipApart z TI TO i1 i2 a b) :
    Turn P w K (.Tuple elts kk tpos) (Itz K a b) [z, TI, TO, i1, i2] z (fun i h => IsZip h z TI TO .none ∧ IsPair h TI (.ref i1) (.ref i2) ∧ (∃ x y, IsPair h TO x y) ∧ h.IsListIter i1 a i ∧ h.IsListIter i2 b i) where
  mem := by simp
  obj := fun i h st c hc => by
    obtain ⟨hz, hTI, ⟨x, y, hTO⟩, ⟨o1, e1, _, d1⟩, ⟨o2, e2, _, d2⟩⟩ := st
    have e' : c = z ∨ c = TI ∨ c = TO ∨ c = i1 ∨ c = i2 := by simpa using hc
    rcases e' with q | q | q | q | q
    · rw [q]; exact ⟨_, hz, fun v q => nomatch q⟩
    · rw [q]; exact ⟨_, hTI, fun v q => nomatch q⟩
    · rw [q]; exact ⟨_, hTO, fun v q => nomatch q⟩
    · rw [q]; exact ⟨o1, e1, fun v q => by rw [d1] at q; cases q⟩
    · rw [q]; exact ⟨o2, e2, fun v q => by rw [d2] at q; cases q⟩
  keep := fun i h h' st k => by
    obtain ⟨hz, hTI, ⟨x, y, hTO⟩, h1, h2⟩ := st
    exact ⟨k z (by simp) _ hz, k TI (by simp) _ hTI, ⟨x, y, k TO (by simp) _ hTO⟩, h1.at fun o q => k i1 (by simp) o q, h2.at fun o q => k i2 (by simp) o q⟩
  item := by
    intro X hP hw hK hc i pins s σ H E I hf st hg
    subst hP hw hK
    obtain ⟨hz, hTI, ⟨x0, y0, hTO⟩, h1, h2⟩ := st
    obtain ⟨xs, ys, x, y, hqx, hqy, hx, hy⟩ := hg
    obtain ⟨its, rv, p, _⟩ := I.list hqx
    obtain ⟨its2, rv2, p2, _⟩ := I.list hqy
    obtain ⟨u, hu, ru⟩ := rv.get hx
    obtain ⟨u2, hu2, ru2⟩ := rv2.get hy
    have hzl : z < s.heap.objs.size := Heap.lt_size hz
    refine wpAny_pyNext_zip_item D hz hTI hTO h1 h2 p.isList p2.isList (x := u) (y := u2) (by simpa using hu) (by simpa using hu2) fun h' z' TO' h1' h2' hT hsz hk => ?_
    refine ⟨_, rfl, wpAny_letOwnedTupleGo_zip (s := { s with heap := h' }) z' fun h'' z'' sb => ?_⟩
    have hT2 : h''.get? s.heap.objs.size = some { cls := .type "tuple", data := .seq #[u, u2] } := (sb.2 _ (Nat.ne_of_gt hzl)).trans hT
    have new : ObjOk X.prog X.w (upd H s.heap.objs.size (.tup [x, y])) h'' s.heap.objs.size (.tup [x, y]) :=
      ⟨by show 2 ≤ sizeLine; decide, [u, u2], .cons ru (.cons ru2 .nil), ⟨_, hT2, rfl, _, rfl⟩⟩
    have I1 : Inv X pins σ (upd H s.heap.objs.size (.tup [x, y])) { s with heap := h'' } :=
      I.turnedNew (t' := s.toks) (ch := [z, TI, TO, i1, i2]) (fun c o hb q => (sb.2 c (fun q' => hb (by simp [q']))).trans (hk c o (fun q' => hb (by simp [q'])) (fun q' => hb (by simp [q'])) (fun q' => hb (by simp [q'])) (fun q' => hb (by simp [q'])) q)) hf (Nat.le_refl _) new
    refine ⟨.ref s.heap.objs.size, _, I1, rfl, ⟨_, x, y, rfl, I.hok.fresh (Nat.le_refl _), rfl, fun l hl => by rw [I.list_inj hl hqx]; exact hx, fun l hl => by rw [I.list_inj hl hqy]; exact hy⟩, ⟨z'', ?_, ⟨u, u2, ?_⟩, ?_, ?_⟩, fun c hcm => ?_⟩
    · exact (sb.2 _ D.TIz).trans (hk _ _ D.TIz D.TITO D.TIi1 D.TIi2 hTI)
    · exact (sb.2 _ D.TOz).trans TO'
    · exact h1'.at fun o q => (sb.2 _ D.i1z).trans q
    · exact h2'.at fun o q => (sb.2 _ D.i2z).trans q
    · have hlt : c < s.heap.objs.size := by
        have e' : c = z ∨ c = TI ∨ c = TO ∨ c = i1 ∨ c = i2 := by simpa using hcm
        rcases e' with q | q | q | q | q
        · rw [q]; exact hzl
        · rw [q]; exact Heap.lt_size hTI
        · rw [q]; exact Heap.lt_size hTO
        · rw [q]; obtain ⟨_, e1, _⟩ := h1; exact Heap.lt_size e1
        · rw [q]; obtain ⟨_, e2, _⟩ := h2; exact Heap.lt_size e2
      rw [upd_ne (Nat.ne_of_lt hlt)]
      exact (hf c hcm).1
  done := by
    intro X hP hw hK hc i pins s σ H E I hf st hg
    subst hP hw hK
    obtain ⟨hz, hTI, ⟨x0, y0, hTO⟩, h1, h2⟩ := st
    obtain ⟨xs, ys, hqx, hqy, hend⟩ := hg
    obtain ⟨its, rv, p, _⟩ := I.list hqx
    obtain ⟨its2, rv2, p2, _⟩ := I.list hqy
    have l1 := rv.length
    have l2 := rv2.length
    have he : its.toArray[i]? = none ∨ its2.toArray[i]? = none := by
      rcases hend with q | q
      · exact .inl (by simp; omega)
      · exact .inr (by simp; omega)
    exact wpAny_pyNext_zip_end (I.ok.hd hc) D hz hTI hTO h1 h2 p.isList p2.isList he fun h' hk => ⟨rfl, I.turnedL (t' := s.toks) (ch := [z, TI, TO, i1, i2]) (fun c o hb q =>
      hk c o (fun q' => hb (by simp [q'])) (fun q' => hb (by simp [q'])) (fun q' => hb (by simp [q'])) (fun q' => hb (by simp [q'])) q) hf⟩
  self := fun A i s Q E st h => wpAny_pyIter_zip st.1 h
def iZip (K : PySem.W.Frag) (ta : TA) : TI := fun σ H R => ta σ H fun vs H1 => ∃ a b xs ys, vs = [.ref a, .ref b] ∧ SqL K H1 a xs ∧ SqL K H1 b ys ∧ R (Itz K a b) H1
theorem pi_zip {X : Cx} {e e2 : Expr} {ta : TA} {p pos tpos : Pos} {elts : List Expr} {kk : Nat} (hg : Gl X "zip") (hm : X.mg "zip" = none) (ha : PA X [e, e2] ta)
    (hs : starEach [e, e2] X.env = (false, eval e X.env) :: starEach [e2] X.env := by rfl) (hpl : (backTo pos (starEach [e2] X.env)).any (·.1) = false := by rfl) :
    PI X (.Tuple elts kk tpos) (.Call (.Name "zip" p) [e, e2] [] pos) (iZip X.K ta) := by
  intro pins s σ H R I h
  refine Call_ (ld_blt I hg hm boot_zip5 (PyProof.Rows.callWith_type1 (thn (ha pos pins s σ H _ I h) fun us s1 ⟨vs, H1, I1, r1, q1⟩ => ?_) hs hpl))
  obtain ⟨a, b, xs, ys, ex, hqx, hqy, q⟩ := q1
  subst ex
  cases r1 with
  | cons r rr =>
    cases rr with
    | cons r' rr =>
      cases rr
      cases r
      cases r'
      obtain ⟨its, rv, p1, _⟩ := I1.list hqx
      obtain ⟨its2, rv2, p2, _⟩ := I1.list hqy
      have la : a < s1.heap.objs.size := p1.lt
      have lb : b < s1.heap.objs.size := p2.lt
      refine call_zip_2 p1.isList p2.isList fun h' hz hTI hTO h1 h2 hsz hk => wpAny_pyIter_zip hz ?_
      have I2 : Inv X pins σ H1 { s1 with heap := h' } := I1.kept (t' := s1.toks) hk
      refine ⟨s1.heap.objs.size + 4, [s1.heap.objs.size + 4, s1.heap.objs.size + 2, s1.heap.objs.size + 3, s1.heap.objs.size, s1.heap.objs.size + 1], _, _, H1, rfl, I2, turn_zip (PySem.W.ktu_apart s1.heap.objs.size a b la lb), ⟨hz, hTI, ⟨_, _, hTO⟩, h1, h2⟩, fun c hcm => ?_, q⟩
      have e' : c = s1.heap.objs.size + 4 ∨ c = s1.heap.objs.size + 2 ∨ c = s1.heap.objs.size + 3 ∨ c = s1.heap.objs.size ∨ c = s1.heap.objs.size + 1 := by simpa using hcm
      have hle : s1.heap.objs.size ≤ c := by
        rcases e' with z | z | z | z | z
        · rw [z]; exact Nat.le_add_right _ _
        · rw [z]; exact Nat.le_add_right _ _
        · rw [z]; exact Nat.le_add_right _ _
        · rw [z]; exact Nat.le_refl _
        · rw [z]; exact Nat.le_add_right _ _
      exact I1.fpOk hle (I1.hok.fresh hle)
end L2

section 
namespace Bits
open PySem PyProof.Rows

theorem natCast_mul_pow (m k : Nat) : (m : Int) * 2 ^ k = ((m * 2 ^ k : Nat) : Int) := by
  rw [two_pow_cast]
  first
    | exact (Int.natCast_mul _ _).symm
    | simp

theorem nat_xor_add_and (m : Nat) : ∀ n : Nat, (m ^^^ n) + 2 * (m &&& n) = m + n := by
  induction m using Nat.strongRecOn with
  | _ m ih =>
    intro n
    by_cases h0 : m = 0
    · subst h0
      simp
    · have ih' := ih (m / 2) (by omega) (n / 2)
      rw [← Nat.xor_div_two, ← Nat.and_div_two] at ih'
      have o1 := @Nat.xor_mod_two_eq_one m n
      have a1 := @Nat.and_mod_two_eq_one m n
      omega

theorem bitXor_pp {x y : Int} (hx : 0 ≤ x) (hy : 0 ≤ y) : Builtin.bitXor x y = ((x.toNat ^^^ y.toNat : Nat) : Int) := by
  have e := nat_xor_add_and x.toNat y.toNat
  rw [bitXor_and, bitAnd_pp hx hy]
  omega
theorem bitOr_pp {x y : Int} (hx : 0 ≤ x) (hy : 0 ≤ y) : Builtin.bitOr x y = ((x.toNat ||| y.toNat : Nat) : Int) := by
  have e := nat_or_add_and x.toNat y.toNat
  rw [bitOr_and, bitAnd_pp hx hy]
  omega
end Bits
end 

section 
namespace TL
open PySem PySem.Builtin PySem.Builtin.Str PySem.StrLaws

abbrev tl (x : Str) : List Nat := x.cps.toList
/-! ### the list functions -/
/-- S stands at the head of l -/
def pre (S l : List Nat) : Bool := l.take S.length == S
/-- l cut at each S from the left; k signs are still to be passed over -/
def spl (S : List Nat) : Nat → List Nat → List Nat → List (List Nat)
  | _, acc, [] => [acc]
  | 0, acc, c :: r => if pre S (c :: r) = true then acc :: spl S (S.length - 1) [] r else spl S 0 (acc ++ [c]) r
  | k + 1, acc, _ :: r => spl S k acc r
/-- what stands before the first S, and behind it -/
def par (S : List Nat) : List Nat → List Nat → Option (List Nat × List Nat)
  | _, [] => none
  | acc, c :: r => if pre S (c :: r) = true then some (acc, (c :: r).drop S.length) else par S (acc ++ [c]) r

/-! ### the model's split and partition are these -/
/-! ### computing spl and par -/
/-! ### digits -/
/-! ### words: x.split() -/
end TL
end 

namespace L2
open PySem PySem.Spec PyProof.Rows

section
variable {X : Cx} {pins : List (Addr × Obj)} {σ : St} {H : Hp} {s : Shared} {Q : VK}
end

section
variable {X : Cx}

/-! ### of a text alone -/
/-! ### of a text and a text -/
end

section
variable {X : Cx} {o e : Expr} {to te : TE}
end
end L2

namespace L2
open PySem PySem.Spec PyProof.Rows

section
variable {X : Cx}
end

/-! ### slices of a text -/
theorem IsPart.raw {v : Value} {o : Option Int} (p : IsPart v o) : ∃ l : Option (Int × Tok), v = partValue l ∧ l.map (·.1) = o := by
  cases p with
  | none => exact ⟨none, rfl, rfl⟩
  | int i t => exact ⟨some (i, t), rfl, rfl⟩

end L2

section
set_option Elab.async false
set_option linter.all false
set_option maxRecDepth 100000
set_option maxHeartbeats 2000000
namespace L2
open PySem PySem.Spec PyProof.Rows
open PySem.W (WData Codec OpenSpec Well WellAll ReadsW ReadsAllW)
/-! ### an answer as data -/
mutual
/-- x stands for the datum d, lists and tuples all the way -/
inductive Dw (K : PySem.W.Frag) (H : Hp) : V → WData → Prop
  | non : Dw K H .non .none
  | bl (b : Bool) : Dw K H (.bl b) (.bool b)
  | int (i : Int) : Dw K H (.int i) (.int i)
  | str (x : Str) : Dw K H (.str x) (.str x)
  | byt (b : Array UInt8) : Dw K H (.byt b) (.bytes b.toList)
  | lst {a : Addr} {xs : List V} {ds : List WData} : SqL K H a xs → DwAll K H xs ds → Dw K H (.ref a) (.list ds)
  | tup {a : Addr} {xs : List V} {ds : List WData} : SqT K H a xs → DwAll K H xs ds → Dw K H (.ref a) (.tuple ds)
inductive DwAll (K : PySem.W.Frag) (H : Hp) : List V → List WData → Prop
  | nil : DwAll K H [] []
  | cons {v : V} {vs : List V} {d : WData} {ds : List WData} : Dw K H v d → DwAll K H vs ds → DwAll K H (v :: vs) (d :: ds)
end
theorem dw_ints {K : PySem.W.Frag} {H : Hp} : ∀ ns : List Int, DwAll K H (ns.map V.int) (ns.map WData.int)
  | [] => .nil
  | n :: r => .cons (.int n) (dw_ints r)
theorem ints_dw {K : PySem.W.Frag} {H : Hp} : ∀ (ns : List Int) (xs : List V), DwAll K H xs (ns.map WData.int) → xs = ns.map V.int
  | [], xs, h => by
    cases h
    rfl
  | n :: r, xs, h => by
    cases h with
    | cons h1 h2 =>
      cases h1
      rw [ints_dw r _ h2] <;> rfl
section
variable {P : Program} {w : World} {K : PySem.W.Frag} {H : Hp} {h : Heap} {R : PySem.W.WRecords} {cl : Str → Option Addr}
theorem sqL_at {a : Addr} {xs : List V} (hok : HOk P w H h) (KX : K.In h) (q : SqL K H a xs) : ∃ (its : List Value) (o : Obj) (n : Nat), Vals xs its ∧ h.get? a = some o ∧ o.cls = .type "list" ∧ o.data = .seq its.toArray n := by
  rcases q with q | ⟨o, its, n, e, hc, _, hd, _, hv⟩
  · obtain ⟨_, its, n, hv, e⟩ := (show ObjOk P w H h a (.lst xs) from q.ok hok)
    exact ⟨its, _, n, hv, e, rfl, rfl⟩
  · exact ⟨its.toList, o, n, hv, KX _ _ e, hc, by simp [hd]⟩
theorem sqT_at {a : Addr} {xs : List V} (hok : HOk P w H h) (KX : K.In h) (q : SqT K H a xs) : ∃ (its : List Value) (o : Obj) (n : Nat), Vals xs its ∧ h.get? a = some o ∧ o.cls = .type "tuple" ∧ o.data = .seq its.toArray n := by
  rcases q with q | ⟨o, its, n, e, hc, hd, _, hv⟩
  · obtain ⟨_, its, hv, o, e, hc, n, hd⟩ := (show ObjOk P w H h a (.tup xs) from q.ok hok)
    exact ⟨its, o, n, hv, e, hc, hd⟩
  · exact ⟨its.toList, o, n, hv, KX _ _ e, hc, by simp [hd]⟩
mutual
theorem Dw.reads (hok : HOk P w H h) (KX : K.In h) : ∀ (d : WData) (v : V) (u : Value), Dw K H v d → RelV v u → ∃ as, ReadsW R cl h u d as
  | .none, _, _, x, r => by
    cases x
    cases r
    exact ⟨_, ReadsW.none⟩
  | .bool b, _, _, x, r => by
    cases x
    cases r
    exact ⟨_, ReadsW.bool b⟩
  | .int i, _, _, x, r => by
    cases x
    obtain ⟨t, rfl⟩ := r
    exact ⟨_, ReadsW.int i t⟩
  | .str s, _, _, x, r => by
    cases x
    obtain ⟨t, rfl⟩ := r
    exact ⟨_, ReadsW.str s t⟩
  | .bytes b, _, _, x, r => by
    cases x
    obtain ⟨t, rfl⟩ := r
    exact ⟨_, ReadsW.bytes _ t⟩
  | .list ds, _, _, x, r => by
    cases x with
    | lst hs ha =>
      cases r
      obtain ⟨its, o, n, rv, ho, hc, hd⟩ := sqL_at hok KX hs
      obtain ⟨as, hr⟩ := Dw.readsAll hok KX ds _ its ha rv
      exact ⟨_, ReadsW.list ho hc hd hr⟩
  | .tuple ds, _, _, x, r => by
    cases x with
    | tup hs ha =>
      cases r
      obtain ⟨its, o, n, rv, ho, hc, hd⟩ := sqT_at hok KX hs
      obtain ⟨as, hr⟩ := Dw.readsAll hok KX ds _ its ha rv
      exact ⟨_, ReadsW.tuple ho hc hd hr⟩
  | .float _, _, _, x, _ => by cases x
  | .dict _, _, _, x, _ => by cases x
  | .bytearray _, _, _, x, _ => by cases x
  | .set _, _, _, x, _ => by cases x
  | .frozenset _, _, _, x, _ => by cases x
  | .obj _ _, _, _, x, _ => by cases x
theorem Dw.readsAll (hok : HOk P w H h) (KX : K.In h) : ∀ (ds : List WData) (vs : List V) (us : List Value), DwAll K H vs ds → Vals vs us → ∃ as, ReadsAllW R cl h us ds as
  | [], _, _, x, r => by
    cases x
    cases r
    exact ⟨_, ReadsAllW.nil⟩
  | d :: ds, _, _, x, r => by
    cases x with
    | cons h1 h2 =>
      cases r with
      | cons r1 r2 =>
        obtain ⟨as, q1⟩ := Dw.reads hok KX d _ _ h1 r1
        obtain ⟨bs, q2⟩ := Dw.readsAll hok KX ds _ _ h2 r2
        exact ⟨_, ReadsAllW.cons q1 q2⟩
end
end
/-! ### the arguments -/
mutual
/-- data that a codec tells -/
def plW : WData → Bool
  | .none => true
  | .bool _ => true
  | .int _ => true
  | .str _ => true
  | .bytes _ => true
  | .list xs => plWs xs
  | .tuple xs => plWs xs
  | _ => false
def plWs : List WData → Bool
  | [] => true
  | x :: r => plW x && plWs r
end
theorem plWs_map {α : Type} {f : α → WData} (h : ∀ a, plW (f a) = true) : ∀ l : List α, plWs (l.map f) = true
  | [] => rfl
  | x :: r => by
    show (plW (f x) && plWs (r.map f)) = true
    rw [h x, plWs_map h r] <;> rfl
theorem pl_enc : ∀ (c : Codec) (a : c.denote), plW (c.enc a) = true
  | .unit, _ => rfl
  | .bool, _ => rfl
  | .int _ _, _ => rfl
  | .nat _ _, _ => rfl
  | .u8, _ => rfl
  | .bytes _ _, _ => rfl
  | .text _ _ _ _, _ => rfl
  | .list _ _ c, a => plWs_map (fun x => pl_enc c x) a
  | .pair c d, a => by
    show (plW (c.enc a.1) && (plW (d.enc a.2) && true)) = true
    rw [pl_enc c a.1, pl_enc d a.2] <;> rfl
  | .triple c d e, a => by
    show (plW (c.enc a.1) && (plW (d.enc a.2.1) && (plW (e.enc a.2.2) && true))) = true
    rw [pl_enc c a.1, pl_enc d a.2.1, pl_enc e a.2.2] <;> rfl
  | .option c, none => rfl
  | .option c, some x => pl_enc c x
theorem pl_encAll : ∀ (cs : List Codec) (a : Codec.denoteAll cs), plWs (Codec.encAll cs a) = true
  | [], _ => rfl
  | c :: cs, a => by
    show (plW (c.enc a.1) && plWs (Codec.encAll cs a.2)) = true
    rw [pl_enc c a.1, pl_encAll cs a.2] <;> rfl
theorem weight_mem : ∀ {xs : List WData} {d : WData}, d ∈ xs → d.weight ≤ WData.weightAll xs
  | [], d, h => absurd h (by simp)
  | x :: r, d, h => by
    show d.weight ≤ x.weight + 1 + WData.weightAll r
    rcases List.mem_cons.mp h with e | m
    · rw [e]
      omega
    · have z := weight_mem m
      omega
def toV : Value → V
  | .none => .non
  | .bool b => .bl b
  | .int i _ => .int i
  | .str x _ => .str x
  | .bytes b _ => .byt b
  | .ref a => .ref a
  | _ => .non
/-- a value of the arguments, its objects among A -/
def OkU (A : List Addr) : Value → Prop
  | .none => True
  | .bool _ => True
  | .int _ _ => True
  | .str _ _ => True
  | .bytes _ _ => True
  | .ref a => a ∈ A
  | _ => False
theorem OkU.mono {A B : List Addr} (h : ∀ a ∈ A, a ∈ B) : ∀ {u : Value}, OkU A u → OkU B u := fun {u} x => by
  cases u with
  | ref a => exact h a x
  | none => trivial
  | bool b => trivial
  | int i t => trivial
  | str s t => trivial
  | bytes b t => trivial
  | _ => exact False.elim x
theorem relV_toV {A : List Addr} {u : Value} (x : OkU A u) : RelV (toV u) u := by
  cases u with
  | ref a => rfl
  | none => rfl
  | bool b => rfl
  | int i t => exact ⟨t, rfl⟩
  | str s t => exact ⟨t, rfl⟩
  | bytes b t => exact ⟨t, rfl⟩
  | _ => exact False.elim x
theorem vals_toV {A : List Addr} : ∀ {vs : List Value}, (∀ u ∈ vs, OkU A u) → Vals (vs.map toV) vs
  | [], _ => .nil
  | u :: r, h => .cons (relV_toV (h u (List.mem_cons_self ..))) (vals_toV fun x hx => h x (List.mem_cons_of_mem _ hx))
/-- an object of the arguments -/
def ArgOb (h : Heap) (A : List Addr) (a : Addr) : Prop := ∃ vs : List Value, vs.length ≤ sizeLine ∧ (∀ u ∈ vs, OkU A u) ∧
  (h.get? a = some { cls := .type "list", data := .seq vs.toArray } ∨ h.get? a = some { cls := .type "tuple", data := .seq vs.toArray })
theorem ArgOb.mono {h : Heap} {A B : List Addr} {a : Addr} (k : ∀ a ∈ A, a ∈ B) (x : ArgOb h A a) : ArgOb h B a := by
  obtain ⟨vs, h1, h2, h3⟩ := x
  exact ⟨vs, h1, fun u hu => (h2 u hu).mono k, h3⟩
theorem wellAll_len {P : Params} {h : Heap} : ∀ {vs : List Value} {ds : List WData}, WellAll P h vs ds → vs.length = ds.length
  | _, _, .nil => rfl
  | _, _, .cons _ b => by
    show _ + 1 = _ + 1
    rw [wellAll_len b]
theorem well_list {P : Params} {h : Heap} {v : Value} {ds : List WData} (x : Well P h v (.list ds)) : ∃ (a : Addr) (vs : List Value), v = .ref a ∧ h.get? a = some { cls := .type "list", data := .seq vs.toArray } ∧ WellAll P h vs ds := by
  cases x with
  | list ho hall => exact ⟨_, _, rfl, ho, hall⟩
theorem well_tuple {P : Params} {h : Heap} {v : Value} {ds : List WData} (x : Well P h v (.tuple ds)) : ∃ (a : Addr) (vs : List Value), v = .ref a ∧ h.get? a = some { cls := .type "tuple", data := .seq vs.toArray } ∧ WellAll P h vs ds := by
  cases x with
  | tuple ho hall => exact ⟨_, _, rfl, ho, hall⟩
theorem well_cons {P : Params} {h : Heap} {us : List Value} {d : WData} {ds : List WData} (x : WellAll P h us (d :: ds)) : ∃ (v : Value) (vs : List Value), us = v :: vs ∧ Well P h v d ∧ WellAll P h vs ds := by
  cases x with
  | cons a b => exact ⟨_, _, rfl, a, b⟩
theorem line_of {n : Nat} (h : n ≤ 1048576) : n ≤ sizeLine := Nat.le_trans h (by decide)
section
variable {P : Params} {h : Heap}
mutual
theorem area_one : ∀ (d : WData) (v : Value), Well P h v d → plW d = true → d.weight ≤ 1048576 → ∃ A : List Addr, OkU A v ∧ ∀ a ∈ A, ArgOb h A a
  | .none, _, x, _, _ => by
    cases x
    exact ⟨[], trivial, fun a m => absurd m (by simp)⟩
  | .bool b, _, x, _, _ => by
    cases x
    exact ⟨[], trivial, fun a m => absurd m (by simp)⟩
  | .int i, _, x, _, _ => by
    cases x
    exact ⟨[], trivial, fun a m => absurd m (by simp)⟩
  | .str s, _, x, _, _ => by
    cases x
    exact ⟨[], trivial, fun a m => absurd m (by simp)⟩
  | .bytes b, _, x, _, _ => by
    cases x
    exact ⟨[], trivial, fun a m => absurd m (by simp)⟩
  | .list ds, _, x, p, z => by
    obtain ⟨a, vs, rfl, ho, hall⟩ := well_list x
    have z2 : WData.weightAll ds ≤ 1048576 := z
    obtain ⟨A, h1, h2⟩ := area_all ds _ hall p fun d hd => Nat.le_trans (weight_mem hd) z2
    have k : ∀ b ∈ A, b ∈ a :: A := fun b hb => List.mem_cons_of_mem _ hb
    refine ⟨a :: A, List.mem_cons_self .., fun b hb => ?_⟩
    rcases List.mem_cons.mp hb with e | m
    · rw [e]
      exact ⟨vs, line_of (by rw [wellAll_len hall]; exact Nat.le_trans (PySem.W.length_le_weightAllW ds) z2), fun u hu => (h1 u hu).mono k, .inl ho⟩
    · exact (h2 b m).mono k
  | .tuple ds, _, x, p, z => by
    obtain ⟨a, vs, rfl, ho, hall⟩ := well_tuple x
    have z2 : WData.weightAll ds ≤ 1048576 := z
    obtain ⟨A, h1, h2⟩ := area_all ds _ hall p fun d hd => Nat.le_trans (weight_mem hd) z2
    have k : ∀ b ∈ A, b ∈ a :: A := fun b hb => List.mem_cons_of_mem _ hb
    refine ⟨a :: A, List.mem_cons_self .., fun b hb => ?_⟩
    rcases List.mem_cons.mp hb with e | m
    · rw [e]
      exact ⟨vs, line_of (by rw [wellAll_len hall]; exact Nat.le_trans (PySem.W.length_le_weightAllW ds) z2), fun u hu => (h1 u hu).mono k, .inr ho⟩
    · exact (h2 b m).mono k
  | .float _, _, _, p, _ => Bool.noConfusion (show false = true from p)
  | .dict _, _, _, p, _ => Bool.noConfusion (show false = true from p)
  | .bytearray _, _, _, p, _ => Bool.noConfusion (show false = true from p)
  | .set _, _, _, p, _ => Bool.noConfusion (show false = true from p)
  | .frozenset _, _, _, p, _ => Bool.noConfusion (show false = true from p)
  | .obj _ _, _, _, p, _ => Bool.noConfusion (show false = true from p)
theorem area_all : ∀ (ds : List WData) (vs : List Value), WellAll P h vs ds → plWs ds = true → (∀ d ∈ ds, d.weight ≤ 1048576) → ∃ A : List Addr, (∀ u ∈ vs, OkU A u) ∧ ∀ a ∈ A, ArgOb h A a
  | [], _, x, _, _ => by
    cases x
    exact ⟨[], fun u m => absurd m (by simp), fun a m => absurd m (by simp)⟩
  | d :: ds, _, x, p, z => by
    obtain ⟨v, vs, rfl, x1, x2⟩ := well_cons x
    have q : plW d = true ∧ plWs ds = true := Bool.and_eq_true_iff.mp p
    obtain ⟨A, a1, a2⟩ := area_one d v x1 q.1 (z d (List.mem_cons_self ..))
    obtain ⟨B, b1, b2⟩ := area_all ds vs x2 q.2 fun e he => z e (List.mem_cons_of_mem _ he)
    have kA : ∀ b ∈ A, b ∈ A ++ B := fun b hb => List.mem_append.mpr (.inl hb)
    have kB : ∀ b ∈ B, b ∈ A ++ B := fun b hb => List.mem_append.mpr (.inr hb)
    refine ⟨A ++ B, fun u hu => ?_, fun b hb => ?_⟩
    · rcases List.mem_cons.mp hu with e | m
      · rw [e]
        exact a1.mono kA
      · exact (b1 u m).mono kB
    · rcases List.mem_append.mp hb with m | m
      · exact (a2 b m).mono kA
      · exact (b2 b m).mono kB
end
end
/-- what is tracked of an argument's object -/
def hoOf (o : Obj) : Option HO := match o.data with
  | .seq vs _ => if (o.cls == Value.type "list") = true then some (.frz o (.lst (vs.toList.map toV))) else some (.frz o (.tup (vs.toList.map toV)))
  | _ => none
def argH (K : PySem.W.Frag) (h : Heap) (A : List Addr) : Hp := fun b => if b ∈ A then (if (K.lookup b).isNone = true then (h.get? b).bind hoOf else none) else none
/-- nothing is tracked but what is known to the object -/
def OnlyF (H : Hp) : Prop := ∀ b, H b = none ∨ ∃ o u, H b = some (.frz o u)
theorem hoOf_lst (vs : List Value) : hoOf { cls := .type "list", data := .seq vs.toArray } = some (.frz { cls := .type "list", data := .seq vs.toArray } (.lst (vs.map toV))) := by
  show (if (Value.type "list" == Value.type "list") = true then some (HO.frz { cls := .type "list", data := .seq vs.toArray } (.lst (vs.toArray.toList.map toV))) else some (HO.frz { cls := .type "list", data := .seq vs.toArray } (.tup (vs.toArray.toList.map toV)))) = _
  rw [if_pos (beq_self_eq_true _)]
theorem hoOf_tup (vs : List Value) : hoOf { cls := .type "tuple", data := .seq vs.toArray } = some (.frz { cls := .type "tuple", data := .seq vs.toArray } (.tup (vs.map toV))) := by
  show (if (Value.type "tuple" == Value.type "list") = true then some (HO.frz { cls := .type "tuple", data := .seq vs.toArray } (.lst (vs.toArray.toList.map toV))) else some (HO.frz { cls := .type "tuple", data := .seq vs.toArray } (.tup (vs.toArray.toList.map toV)))) = _
  rw [if_neg (by decide)]
section
variable {P : Program} {w : World} {K : PySem.W.Frag} {h : Heap} {A : List Addr}
theorem argH_at {b : Addr} {o : Obj} (hb : b ∈ A) (hk : K.lookup b = none) (e : h.get? b = some o) : argH K h A b = hoOf o := by
  unfold argH
  rw [if_pos hb, hk, if_pos (show (none : Option Obj).isNone = true from rfl), e] <;> rfl
theorem of_argH {b : Addr} {u : HO} (q : argH K h A b = some u) : b ∈ A ∧ K.lookup b = none := by
  unfold argH at q
  by_cases hb : b ∈ A
  · rw [if_pos hb] at q
    cases hk : K.lookup b with
    | none => exact ⟨hb, rfl⟩
    | some o =>
      rw [hk, if_neg (by simp)] at q
      cases q
  · rw [if_neg hb] at q
    cases q
/-- what stands tracked -/
theorem argH_is (ar : ∀ a ∈ A, ArgOb h A a) {b : Addr} {u : HO} (q : argH K h A b = some u) : K.lookup b = none ∧ ∃ vs : List Value, vs.length ≤ sizeLine ∧ (∀ u ∈ vs, OkU A u) ∧
    ((h.get? b = some { cls := .type "list", data := .seq vs.toArray } ∧ u = .frz { cls := .type "list", data := .seq vs.toArray } (.lst (vs.map toV))) ∨
     (h.get? b = some { cls := .type "tuple", data := .seq vs.toArray } ∧ u = .frz { cls := .type "tuple", data := .seq vs.toArray } (.tup (vs.map toV)))) := by
  obtain ⟨hb, hk⟩ := of_argH q
  obtain ⟨vs, h1, h2, h3⟩ := ar b hb
  refine ⟨hk, vs, h1, h2, ?_⟩
  rcases h3 with e | e
  · rw [argH_at hb hk e, hoOf_lst] at q
    exact .inl ⟨e, (Option.some.inj q).symm⟩
  · rw [argH_at hb hk e, hoOf_tup] at q
    exact .inr ⟨e, (Option.some.inj q).symm⟩
theorem argH_only (ar : ∀ a ∈ A, ArgOb h A a) : OnlyF (argH K h A) := fun b => by
  cases q : argH K h A b with
  | none => exact .inl rfl
  | some u =>
    obtain ⟨_, vs, _, _, ⟨_, e⟩ | ⟨_, e⟩⟩ := argH_is ar q
    · exact .inr ⟨_, _, by rw [e]⟩
    · exact .inr ⟨_, _, by rw [e]⟩
theorem argH_ok (ar : ∀ a ∈ A, ArgOb h A a) : HOk P w (argH K h A) h := fun b u q => by
  obtain ⟨_, vs, h1, h2, ⟨e, rfl⟩ | ⟨e, rfl⟩⟩ := argH_is ar q
  · exact ⟨e, by rw [List.length_map]; exact h1, vs, _, vals_toV h2, e⟩
  · exact ⟨e, by rw [List.length_map]; exact h1, vs, vals_toV h2, _, e, rfl, _, rfl⟩
theorem seq_inj {c c' : Value} {vs us : List Value} (e : (some { cls := c, data := .seq vs.toArray } : Option Obj) = some { cls := c', data := .seq us.toArray }) : c = c' ∧ vs = us := by
  have e1 := Option.some.inj e
  have e2 : c = c' := congrArg Obj.cls e1
  have e3 : Data.seq vs.toArray = Data.seq us.toArray := congrArg Obj.data e1
  injection e3 with e4
  refine ⟨e2, ?_⟩
  have e5 := congrArg Array.toList e4
  simpa using e5
/-- a list argument -/
theorem argL (KX : K.In h) (ar : ∀ a ∈ A, ArgOb h A a) {a : Addr} {vs : List Value} (ha : a ∈ A) (e : h.get? a = some { cls := .type "list", data := .seq vs.toArray }) : (∀ u ∈ vs, OkU A u) ∧ SqL K (argH K h A) a (vs.map toV) := by
  obtain ⟨us, h1, h2, h3⟩ := ar a ha
  have hu : us = vs := by
    rcases h3 with q | q
    · rw [e] at q
      exact (seq_inj q).2.symm
    · rw [e] at q
      exact absurd (Value.type.inj (seq_inj q).1) (by decide)
  subst hu
  refine ⟨h2, ?_⟩
  cases hk : K.lookup a with
  | none => exact .inl (.inr ⟨_, by rw [argH_at ha hk e, hoOf_lst]⟩)
  | some o =>
    have e2 := KX a o hk
    rw [e] at e2
    obtain rfl := Option.some.inj e2
    exact .inr ⟨_, us.toArray, _, hk, rfl, rfl, rfl, by rw [List.size_toArray]; exact h1, by simpa using vals_toV h2⟩
theorem argT (KX : K.In h) (ar : ∀ a ∈ A, ArgOb h A a) {a : Addr} {vs : List Value} (ha : a ∈ A) (e : h.get? a = some { cls := .type "tuple", data := .seq vs.toArray }) : (∀ u ∈ vs, OkU A u) ∧ SqT K (argH K h A) a (vs.map toV) := by
  obtain ⟨us, h1, h2, h3⟩ := ar a ha
  have hu : us = vs := by
    rcases h3 with q | q
    · rw [e] at q
      exact absurd (Value.type.inj (seq_inj q).1) (by decide)
    · rw [e] at q
      exact (seq_inj q).2.symm
  subst hu
  refine ⟨h2, ?_⟩
  cases hk : K.lookup a with
  | none => exact .inl (.inr ⟨_, by rw [argH_at ha hk e, hoOf_tup]⟩)
  | some o =>
    have e2 := KX a o hk
    rw [e] at e2
    obtain rfl := Option.some.inj e2
    exact .inr ⟨_, us.toArray, _, hk, rfl, rfl, by rw [List.size_toArray]; exact h1, by simpa using vals_toV h2⟩
mutual
theorem dw_one {Pm : Params} (KX : K.In h) (ar : ∀ a ∈ A, ArgOb h A a) : ∀ (d : WData) (v : Value), Well Pm h v d → plW d = true → OkU A v → Dw K (argH K h A) (toV v) d
  | .none, _, x, _, _ => by
    cases x
    exact .non
  | .bool b, _, x, _, _ => by
    cases x
    exact .bl b
  | .int i, _, x, _, _ => by
    cases x
    exact .int i
  | .str s, _, x, _, _ => by
    cases x
    exact .str s
  | .bytes b, _, x, _, _ => by
    cases x
    have z := Dw.byt (K := K) (H := argH K h A) b.toArray
    exact z
  | .list ds, _, x, p, hu => by
    obtain ⟨a, vs, rfl, ho, hall⟩ := well_list x
    obtain ⟨h2, hs⟩ := argL KX ar hu ho
    exact .lst hs (dw_all KX ar ds _ hall p h2)
  | .tuple ds, _, x, p, hu => by
    obtain ⟨a, vs, rfl, ho, hall⟩ := well_tuple x
    obtain ⟨h2, hs⟩ := argT KX ar hu ho
    exact .tup hs (dw_all KX ar ds _ hall p h2)
  | .float _, _, _, p, _ => Bool.noConfusion (show false = true from p)
  | .dict _, _, _, p, _ => Bool.noConfusion (show false = true from p)
  | .bytearray _, _, _, p, _ => Bool.noConfusion (show false = true from p)
  | .set _, _, _, p, _ => Bool.noConfusion (show false = true from p)
  | .frozenset _, _, _, p, _ => Bool.noConfusion (show false = true from p)
  | .obj _ _, _, _, p, _ => Bool.noConfusion (show false = true from p)
theorem dw_all {Pm : Params} (KX : K.In h) (ar : ∀ a ∈ A, ArgOb h A a) : ∀ (ds : List WData) (vs : List Value), WellAll Pm h vs ds → plWs ds = true → (∀ u ∈ vs, OkU A u) → DwAll K (argH K h A) (vs.map toV) ds
  | [], _, x, _, _ => by
    cases x
    exact .nil
  | d :: ds, _, x, p, hu => by
    obtain ⟨v, vs, rfl, x1, x2⟩ := well_cons x
    have q : plW d = true ∧ plWs ds = true := Bool.and_eq_true_iff.mp p
    exact .cons (dw_one KX ar d v x1 q.1 (hu _ (List.mem_cons_self ..))) (dw_all KX ar ds vs x2 q.2 fun u m => hu u (List.mem_cons_of_mem _ m))
end
end
/-! ### the call -/
theorem spec_call {P : Program} {w : World} {K : PySem.W.Frag} {mg mb : Str → Option Value} {CX : CXT} {k : Nat} {fa : Addr} {fd : FuncData} {ps : List Str} {sp : Sp} {s₁ : Shared} {vals : List Value} {ds : List WData} {R : PySem.W.WRecords} {cl : Str → Option Addr} {d0 : WData}
    (KX : K.In s₁.heap) (hns : s₁.heap.Ns mainGlobals mg) (hb : s₁.heap.Ns builtinsNs mb) (hbb : ∀ x : Str, x ≠ "__name__" → mb x = bootBuiltins x) (hlim : s₁.heap.NoLimit) (hg : s₁.gens = #[])
    (hwl : WellAll w.params s₁.heap vals ds) (hpl : plWs ds = true) (hwt : ∀ d ∈ ds, d.weight ≤ 1048576) (hr : Room k callerA)
    (F : ∀ base : Heap, K.In base → base.Ns mainGlobals mg → FnOk P w K mg base CX k fa fd ps sp) (hbind : ∀ (s : Shared) (us : List Value), us.length = ps.length → BindsTo s fd ⟨us, []⟩ (ps.zip us)) (hlen : ds.length = ps.length)
    (hsp : ∀ (H : Hp) (xs : List V), OnlyF H → DwAll K H xs ds → sp xs H (fun v H' => Dw K H' v d0) fun _ _ _ => False)
    (hCX : ∀ H e s', CX [] H s₁ (fun _ _ _ => False) e s' → False) :
    codeAny (model P w) callerA (.call (.ref fa) ⟨vals, []⟩) (fun r s' => ∃ u as, r = .ok (.ret u) ∧ ReadsW R cl s'.heap u d0 as ∧ OldK s₁.heap s'.heap ∧ s'.os = s₁.os ∧ AllBare s'.gens) s₁ := by
  obtain ⟨A, ho, ar⟩ := area_all ds vals hwl hpl hwt
  have hO : OnlyF (argH K s₁.heap A) := argH_only ar
  have hok : HOk P w (argH K s₁.heap A) s₁.heap := argH_ok ar
  have hS := dw_all KX ar ds vals hwl hpl ho
  have hV := vals_toV ho
  have hK : ∀ b u, argH K s₁.heap A b = some u → K.lookup b = none := fun b u q => (argH_is ar q).1
  have noA : ∀ {b : Addr} {o : Obj} {es : Array DictEntry} {ep : Nat}, s₁.heap.get? b = some o → o.data = .dict es ep → argH K s₁.heap A b = none := fun {b o es ep} e d => by
    cases q : argH K s₁.heap A b with
    | none => rfl
    | some u =>
      obtain ⟨_, vs, _, _, ⟨e2, _⟩ | ⟨e2, _⟩⟩ := argH_is ar q
      · rw [e2] at e
        cases e
        have d' : Data.seq vs.toArray _ = Data.dict es ep := d
        cases d'
      · rw [e2] at e
        cases e
        have d' : Data.seq vs.toArray _ = Data.dict es ep := d
        cases d'
  generalize argH K s₁.heap A = H at hO hok hS hK noA
  have base_of : ∀ {b : Addr} {o : Obj}, s₁.heap.get? b = some o → H b = none → (hidT s₁.heap H).get? b = some o := fun e n => hidT_get e n
  have nsK : ∀ {b : Addr} {m : Str → Option Value}, s₁.heap.Ns b m → (hidT s₁.heap H).Ns b m := fun {b m} ⟨o, es, ep, e, d, r⟩ => ⟨o, es, ep, base_of e (noA e d), d, r⟩
  have nK : ∀ b o, K.lookup b = some o → H b = none := fun b o e => by
    cases q : H b with
    | none => rfl
    | some u =>
      rw [hK b u q] at e
      cases e
  have hKb : K.In (hidT s₁.heap H) := fun b o e => base_of (KX b o e) (nK b o e)
  have hM : Mod K mg (hidT s₁.heap H) := ⟨hKb, nsK hns, ⟨mb, nsK hb, hbb⟩, let ⟨mc, h1, h2⟩ := hlim; ⟨mc, nsK h1, h2⟩⟩
  have e0 : Env0 P w K mg (hidT s₁.heap H) callerA [] s₁ H := ⟨rfl, hM, fun b o e => of_hidT e, Nat.le_of_eq (hidT_size _ _), trivial, fun b hb => absurd (show b ∈ ([] : List Addr) from hb) (by simp), hok, .of_eq hg⟩
  have hl : vals.length = ps.length := by rw [wellAll_len hwl]; exact hlen
  refine codeAny_mono ((F _ hKb (nsK hns)).run callerA [] s₁ H ⟨vals, []⟩ vals (vals.map toV) _ _ hr e0 (hbind s₁ vals hl) hV (hsp H _ hO hS)) fun r s' x => ?_
  cases r with
  | error e => exact (hCX H e s' x).elim
  | ok fl =>
    cases fl with
    | next => exact False.elim x
    | brk => exact False.elim x
    | cont => exact False.elim x
    | ret u =>
      obtain ⟨v, H', os, bare, un, hok', r', q⟩ := x
      have kept : ∀ b o, s₁.heap.get? b = some o → s'.heap.get? b = some o := fun b o e => by
        cases q2 : H b with
        | none => exact un.keep b o e q2 (by intro z; exact absurd (show b ∈ ([] : List Addr) from z) (by simp)) (by simp)
        | some u2 =>
          rcases hO b with z | ⟨ob, u3, z⟩
          · rw [q2] at z
            cases z
          · have z2 := un.frzs b ob _ z
            obtain ⟨e1, _⟩ := hok b _ z
            obtain ⟨e2, _⟩ := hok' b _ z2
            rw [e] at e1
            cases e1
            exact e2
      have KX' : K.In s'.heap := fun b o e => kept b o (KX b o e)
      obtain ⟨as, hrd⟩ := Dw.reads (R := R) (cl := cl) hok' KX' d0 v u q r'
      exact ⟨u, as, rfl, hrd, OldK.of_keep kept, os, bare⟩
/-! ### the row -/
theorem layable_weight {ds : List WData} (h : WData.layableAll ds = true) : ∀ d ∈ ds, d.weight ≤ 1048576 := fun d hd =>
  (PySem.W.layableW_iff.mp (List.all_eq_true.mp h d hd)).2.2
theorem encAll_len : ∀ (cs : List Codec) (a : Codec.denoteAll cs), (Codec.encAll cs a).length = cs.length
  | [], _ => rfl
  | c :: cs, a => by
    show (Codec.encAll cs a.2).length + 1 = cs.length + 1
    rw [encAll_len cs a.2]
/-- the goal that k_headS leaves (case hc), from the promise of the row's def: whatever the arguments that the codecs let and the row asks for, the def gives what stands for enc (f ..) -/
theorem walk_spec {r : OpenSpec} {k : Nat} {q : Program} {loose : List Str} {XP : (Str → Option Value) → Heap → Prop} {YP : World → Heap → Prop} {d : DefRec} {K : Params → PySem.W.Frag} {CX : World → CXT} {ps : List Str} {sp : World → Sp}
    (hwell : r.wellSaid = true) (hdf : d.params.defaults = []) (hlen : r.args.length = ps.length) (hr : Room k callerA)
    (hY : ∀ (w : World) (h : Heap), YP w h → (K w.params).In h)
    (F : ∀ (w : World) (mg : Str → Option Value) (fa : Addr) (h : Heap), YP w h → (K w.params).In h → h.Ns mainGlobals mg → mg d.name = some (.ref fa) →
      ∃ fd : FuncData, (∀ (s : Shared) (us : List Value), us.length = ps.length → BindsTo s fd ⟨us, []⟩ (ps.zip us)) ∧
        ∀ base : Heap, (K w.params).In base → base.Ns mainGlobals mg → FnOk r.prog w (K w.params) mg base (CX w) k fa fd ps (sp w))
    (hsp : ∀ (w : World) (H : Hp) (xs : List V) (a : Codec.denoteAll r.args), OnlyF H → Codec.withinAll r.args a = true → Codec.app r.args r.asked a = true → DwAll (K w.params) H xs (Codec.encAll r.args a) →
      sp w xs H (fun v H' => Dw (K w.params) H' v (r.ret.enc (Codec.app r.args r.f a))) fun _ _ _ => False)
    (hCX : ∀ (w : World) (H : Hp) (s : Shared) (e : Value) (s' : Shared), CX w [] H s (fun _ _ _ => False) e s' → False) :
    PySem.W.WalkOS q loose XP YP r d [] (fun f vs => PySem.call f vs) := by
  intro w s_0 s₁ mg mb G Y fa o pm cd doc dV kV ho hd hcd hD hmg hg args vals as hpre hlay hrd hwl hlo
  obtain ⟨a, e1, e2⟩ := PySem.W.os_pre_some hpre
  obtain ⟨e3, hwi⟩ := Codec.encAll_of_decAll r.args args a e1
  subst e3
  have KX := hY w _ Y
  obtain ⟨fd, hb, hF⟩ := F w mg fa _ Y KX G.T.g hmg
  refine PySem.W.enter_call (codeAny_mono (spec_call (R := []) (cl := classAt s_0.heap) (d0 := r.ret.enc (Codec.app r.args r.f a)) KX G.T.g G.T.b G.T.builtins G.T.nolimit hg hwl (pl_encAll _ _) (layable_weight hlay) hr hF hb (by rw [encAll_len]; exact hlen)
    (fun H xs hO hS => hsp w H xs a hO hwi e2 hS) fun H e s' => hCX w H s₁ e s') fun r' s' hq => ?_)
  obtain ⟨u, as', rfl, h1, h2, h3, h4⟩ := hq
  exact ⟨.inl ⟨u, _, as', rfl, fun _ => rfl, h1, (OpenSpec.post_iff hwell hwi _ _).mpr rfl, fun z => Bool.noConfusion (show false = true from z)⟩, h2, h3, h4⟩
/-- the same where the promise hangs on the written part alone -/
theorem walk_specK {r : OpenSpec} {k : Nat} {q : Program} {loose : List Str} {XP : (Str → Option Value) → Heap → Prop} {YP : World → Heap → Prop} {d : DefRec} {K : Params → PySem.W.Frag} {CX : CXT} {ps : List Str} {sp : PySem.W.Frag → Sp}
    (hwell : r.wellSaid = true) (hdf : d.params.defaults = []) (hlen : r.args.length = ps.length) (hr : Room k callerA)
    (hY : ∀ (w : World) (h : Heap), YP w h → (K w.params).In h)
    (F : ∀ (w : World) (mg : Str → Option Value) (fa : Addr) (h : Heap), YP w h → (K w.params).In h → h.Ns mainGlobals mg → mg d.name = some (.ref fa) →
      ∃ fd : FuncData, (∀ (s : Shared) (us : List Value), us.length = ps.length → BindsTo s fd ⟨us, []⟩ (ps.zip us)) ∧
        ∀ base : Heap, (K w.params).In base → base.Ns mainGlobals mg → FnOk r.prog w (K w.params) mg base CX k fa fd ps (sp (K w.params)))
    (hsp : ∀ (K : PySem.W.Frag) (H : Hp) (xs : List V) (a : Codec.denoteAll r.args), OnlyF H → Codec.withinAll r.args a = true → Codec.app r.args r.asked a = true → DwAll K H xs (Codec.encAll r.args a) →
      sp K xs H (fun v H' => Dw K H' v (r.ret.enc (Codec.app r.args r.f a))) fun _ _ _ => False)
    (hCX : ∀ (H : Hp) (s : Shared) (e : Value) (s' : Shared), CX [] H s (fun _ _ _ => False) e s' → False) :
    PySem.W.WalkOS q loose XP YP r d [] (fun f vs => PySem.call f vs) :=
  walk_spec (K := K) (CX := fun _ => CX) (sp := fun w => sp (K w.params)) hwell hdf hlen hr hY F (fun w H xs a h1 h2 h3 h4 => hsp (K w.params) H xs a h1 h2 h3 h4) fun _ H s e s' => hCX H s e s'
end L2
end
/-! SHORT WORDS over the layer: a def of the text, its body, what a loop and a test want. -/
namespace L2
open PySem PySem.Spec PyProof.Rows

/-! ### the text by places -/
def defArgs (s : Stmt) : Arguments := match s with
  | .FunctionDef _ a _ _ _ _ _ _ _ _ => a
  | _ => { posonlyargs := [], args := [], vararg := none, kwonlyargs := [], kw_defaults := [], kwarg := none, defaults := [] }
def defBody (s : Stmt) : List Stmt := match s with
  | .FunctionDef _ _ b _ _ _ _ _ _ _ => b
  | _ => []
def defScope (s : Stmt) : Scope := match s with
  | .FunctionDef _ _ _ _ _ _ sc _ _ _ => sc
  | _ => { kind := .function, names := [], isGenerator := false, isCoroutine := false }

/-! ### no exception leaves a def -/
abbrev CX0 : CXT := fun _ _ _ _ _ _ => False
abbrev E0 : XK := fun _ _ _ => False
theorem pass0 {X : Cx} : Passes CX0 X E0 := fun _ _ _ _ _ _ _ h => h.elim

/-! ### a def (or method) of the text as it stands behind the top -/
structure Fun (K : PySem.W.Frag) (x qual : Str) (st : Stmt) (f : Addr) (fd : FuncData) : Prop where
  ex : ∃ (oc : Value) (od : Option Addr) (kV doc pm : Value) (an : Option Addr) (cdv ct : Value) (osl : Array (Option Value)),
    fd = PySem.W.fnOf x qual (defArgs st) (defBody st) (defScope st) .none kV doc pm an cdv ct ∧ K.lookup f = some ⟨oc, od, .func fd, osl⟩ ∧ PySem.W.codeIn K cdv qual = true
  kp : PySem.W.keepIn K (.ref f) = true
section
variable {P : Program} {w : World} {K : PySem.W.Frag} {mg : Str → Option Value} {base : Heap}
/-- THE RULE for a def: its body as a term of rules, and the reading of that term -/
theorem Fun.ok {x qual : Str} {st : Stmt} {f : Addr} {fd : FuncData} {N ps : List Str} {k : Nat} {sp : Sp} (F : Fun K x qual st f fd) (S : FnScope N ps (defScope st)) (len : ∀ vs H Q E, sp vs H Q E → vs.length = ps.length)
    (hbody : ∀ (cdv : Value) (A : Around) (outer : List Env) (s : Shared) (H : Hp) (vs : List V) (Q : VK) (E : XK), Room k (A.deeper (envOfC qual (defScope st) s.heap.objs.size f cdv)) → sp vs H Q E →
      ∃ t, PSs (cxOf CX0 P w K mg base N qual (defScope st) f cdv A outer s H E).nox (defBody st) t ∧ t { nx := fun _ H' => Q .non H', rt := Q } (start N vs) H) : FnOk P w K mg base CX0 (k + 1) f fd ps sp := by
  obtain ⟨oc, od, kV, doc, pm, an, cdv, ct, osl, rfl, lk, hcd⟩ := F.ex
  refine fn_of lk hcd S len fun A outer s H vs Q E hr hsp => ?_
  obtain ⟨t, h, q⟩ := hbody cdv A outer s H vs Q E hr hsp
  exact ⟨t, h.nox, q⟩
/-- how its arguments bind (no defaults): h is «fun _ _ _ _ _ _ us hl => match us, hl with | [_, _], _ => rfl», one _ a parameter -/
theorem Fun.binds {x qual : Str} {st : Stmt} {f : Addr} {fd : FuncData} {ps : List Str} (F : Fun K x qual st f fd)
    (h : ∀ (kV doc pm : Value) (an : Option Addr) (cdv ct : Value) (us : List Value), us.length = ps.length → bindArgs (PySem.W.fnOf x qual (defArgs st) (defBody st) (defScope st) .none kV doc pm an cdv ct) ⟨us, []⟩ = pure (ps.zip us)) : Binds K fd ps [] := by
  obtain ⟨oc, od, kV, doc, pm, an, cdv, ct, osl, rfl, lk, hcd⟩ := F.ex
  exact .all (h kV doc pm an cdv ct)
theorem fun_mk {x qual : Str} {st : Stmt} {f : Addr} {oc : Value} {od an : Option Addr} {osl : Array (Option Value)} {kV doc pm cdv ct : Value} (l : K.lookup f = some ⟨oc, od, .func (PySem.W.fnOf x qual (defArgs st) (defBody st) (defScope st) .none kV doc pm an cdv ct), osl⟩)
    (c : PySem.W.codeIn K cdv qual = true) (k : PySem.W.keepIn K (.ref f) = true) : Fun K x qual st f (PySem.W.fnOf x qual (defArgs st) (defBody st) (defScope st) .none kV doc pm an cdv ct) := ⟨⟨oc, od, kV, doc, pm, an, cdv, ct, osl, rfl, l, c⟩, k⟩
end
/-! ### expressions in short: the name that stands in the i-th slot -/
section
variable {X : Cx}
theorem pv (i : Nat) {x : Str} {pos : Pos} (hN : X.N[i]? = some x := by rfl) (hv : Vis X.env.scope x := by first | exact Or.inl rfl | exact Or.inr (Or.inl rfl) | exact Or.inr (Or.inr rfl)) (hd : (x == ("__debug__" : Str)) = false := by decide)
    (hcd : (x == ("__classdict__" : Str)) = false := by decide) : PE X (.Name x pos) (tVar i) := pe_var hN hv hd hcd
end

/-! ### tests -/
/-! ### heaps -/
/-- all that was tracked is as it was -/
def Same (H H' : Hp) : Prop := ∀ b o, H b = some o → H' b = some o
theorem Same.refl (H : Hp) : Same H H := fun _ _ h => h
theorem Same.trans {H H1 H2 : Hp} (a : Same H H1) (b : Same H1 H2) : Same H H2 := fun c o h => b c o (a c o h)
theorem Same.free {H H' : Hp} (e : Same H H') {l : Addr} (h : H' l = Option.none) : H l = Option.none := by
  cases q : H l with
  | none => rfl
  | some o =>
    rw [e l o q] at h
    cases h
theorem Same.seq {K : PySem.W.Frag} {H H' : Hp} {a : Addr} {xs : List V} (e : Same H H') (h : SqL K H a xs) : SqL K H' a xs := by
  rcases h with (h | ⟨o, h⟩) | h
  · exact .inl (.inl (e _ _ h))
  · exact .inl (.inr ⟨o, e _ _ h⟩)
  · exact .inr h

/-! ### a dict's pairs: keys that differ -/
section
variable {κ : Type} [DecidableEq κ]
end
/-! ### lists -/
theorem at_of {xs : List V} {z : Int} {j : Nat} {v : V} (e : z = (j : Int)) (h : xs[j]? = some v) : atI xs z = some v := by
  rw [e]
  exact atI_nat h
theorem nd_ix {α : Type} {l : List α} (hN : l.Nodup) {i j : Nat} {x : α} (a : l[i]? = some x) (b : l[j]? = some x) : i = j := by
  obtain ⟨h1, e1⟩ := List.getElem?_eq_some_iff.mp a
  obtain ⟨h2, e2⟩ := List.getElem?_eq_some_iff.mp b
  exact (List.getElem_inj hN).mp (e1.trans e2.symm)
/-- a new instance and its __init__ leave all that was tracked as it was -/
theorem Same.made {H H1 : Hp} {x dx C : Addr} (nx : H x = Option.none) (nd : H dx = Option.none) (k : ∀ b o, (upd (upd H dx (.own x)) x (.ins C dx [])) b = some o → b ≠ x → H1 b = some o) : Same H H1 := fun b o e =>
  k b o (by rw [upd_ne (ne_of_none e nx), upd_ne (ne_of_none e nd)]; exact e) (ne_of_none e nx)
end L2


end
section
set_option Elab.async false
set_option linter.all false
set_option maxRecDepth 100000
set_option maxHeartbeats 2000000
namespace My
theorem arr_getD (f : Nat → Nat) {x n : Nat} (h : x < n) : ((Array.range n).map f).getD x 0 = f x := by
  simp [Array.getD, h]
theorem inv_eq {x : Nat} (h : x < 256) : Sy22.inv x = Sy22.power x 254 := by
  unfold Sy22.inv Sy22.inverses
  exact arr_getD _ h
theorem twice_lt {b : Nat} (h : b < 256) : Sy22.twice b < 256 := by
  have : ∀ b : Fin 256, Sy22.twice b.1 < 256 := by decide +kernel
  exact this ⟨b, h⟩
theorem xor256 {a b : Nat} (h : a < 256) (h' : b < 256) : a ^^^ b < 256 := Nat.xor_lt_two_pow (n := 8) h h'
theorem twice_eq {a : Nat} (h : a < 256) : Sy22.twice a = (2 * a) ^^^ (283 * (a / 128)) := by
  have : ∀ b : Fin 256, Sy22.twice b.1 = (2 * b.1) ^^^ (283 * (b.1 / 128)) := by decide +kernel
  exact this ⟨a, h⟩
theorem two_xor (a b : Nat) : 2 * (a ^^^ b) = (2 * a) ^^^ (2 * b) := by
  have := Nat.shiftLeft_xor_distrib (a := a) (b := b) (i := 1)
  simpa [Nat.shiftLeft_eq, Nat.mul_comm] using this
theorem div_xor (a b : Nat) : (a ^^^ b) / 128 = (a / 128) ^^^ (b / 128) := by
  have := Nat.shiftRight_xor_distrib (a := a) (b := b) (i := 7)
  simpa [Nat.shiftRight_eq_div_pow] using this
theorem xor4 (a b c d : Nat) : (a ^^^ b) ^^^ (c ^^^ d) = (a ^^^ c) ^^^ (b ^^^ d) := by
  rw [Nat.xor_assoc, Nat.xor_assoc, ← Nat.xor_assoc b c d, Nat.xor_comm b c, Nat.xor_assoc c b d]
theorem m283 {x y : Nat} (hx : x < 2) (hy : y < 2) : 283 * (x ^^^ y) = (283 * x) ^^^ (283 * y) := by
  have : ∀ x y : Fin 2, 283 * (x.1 ^^^ y.1) = (283 * x.1) ^^^ (283 * y.1) := by decide
  exact this ⟨x, hx⟩ ⟨y, hy⟩
theorem twice_xor {a b : Nat} (ha : a < 256) (hb : b < 256) : Sy22.twice (a ^^^ b) = Sy22.twice a ^^^ Sy22.twice b := by
  rw [twice_eq ha, twice_eq hb, twice_eq (xor256 ha hb), two_xor, div_xor, m283 (by omega) (by omega), xor4]
theorem product_lt : ∀ (n : Nat) {a : Nat} (b : Nat), a < 256 → Sy22.product n a b < 256
  | 0, _, _, _ => by show 0 < 256; omega
  | n + 1, a, b, h => by
    show (if b % 2 = 1 then a else 0) ^^^ Sy22.product n (Sy22.twice a) (b / 2) < 256
    refine xor256 ?_ (product_lt n _ (twice_lt h))
    split
    · exact h
    · omega
theorem mul_lt {a : Nat} (b : Nat) (h : a < 256) : Sy22.mul a b < 256 := product_lt 8 b h
theorem product_xl : ∀ (n : Nat) {a c : Nat} (b : Nat), a < 256 → c < 256 → Sy22.product n (a ^^^ c) b = Sy22.product n a b ^^^ Sy22.product n c b
  | 0, _, _, _, _, _ => by simp [Sy22.product]
  | n + 1, a, c, b, ha, hc => by
    show (if b % 2 = 1 then a ^^^ c else 0) ^^^ Sy22.product n (Sy22.twice (a ^^^ c)) (b / 2) = ((if b % 2 = 1 then a else 0) ^^^ Sy22.product n (Sy22.twice a) (b / 2)) ^^^ ((if b % 2 = 1 then c else 0) ^^^ Sy22.product n (Sy22.twice c) (b / 2))
    rw [twice_xor ha hc, product_xl n _ (twice_lt ha) (twice_lt hc), xor4]
    split <;> simp
theorem product_xr : ∀ (n : Nat) {a : Nat} (b c : Nat), Sy22.product n a (b ^^^ c) = Sy22.product n a b ^^^ Sy22.product n a c
  | 0, _, _, _ => by simp [Sy22.product]
  | n + 1, a, b, c => by
    show (if (b ^^^ c) % 2 = 1 then a else 0) ^^^ Sy22.product n (Sy22.twice a) ((b ^^^ c) / 2) = ((if b % 2 = 1 then a else 0) ^^^ Sy22.product n (Sy22.twice a) (b / 2)) ^^^ ((if c % 2 = 1 then a else 0) ^^^ Sy22.product n (Sy22.twice a) (c / 2))
    rw [Nat.xor_div_two, product_xr n, xor4]
    congr 1
    have e := @Nat.xor_mod_two_eq_one b c
    by_cases h1 : b % 2 = 1
    · by_cases h2 : c % 2 = 1
      · rw [if_neg (by omega), if_pos h1, if_pos h2]; simp
      · rw [if_pos (by omega), if_pos h1, if_neg h2]; simp
    · by_cases h2 : c % 2 = 1
      · rw [if_pos (by omega), if_neg h1, if_pos h2]; simp
      · rw [if_neg (by omega), if_neg h1, if_neg h2]; simp
theorem mul_xl {a c : Nat} (b : Nat) (ha : a < 256) (hc : c < 256) : Sy22.mul (a ^^^ c) b = Sy22.mul a b ^^^ Sy22.mul c b := product_xl 8 b ha hc
theorem mul_xr (a b c : Nat) : Sy22.mul a (b ^^^ c) = Sy22.mul a b ^^^ Sy22.mul a c := product_xr 8 b c
/-- a byte by its bits -/
theorem bits8 {a : Nat} (h : a < 256) : a = (a % 2) ^^^ ((a / 2 % 2 * 2) ^^^ ((a / 4 % 2 * 4) ^^^ ((a / 8 % 2 * 8) ^^^ ((a / 16 % 2 * 16) ^^^ ((a / 32 % 2 * 32) ^^^ ((a / 64 % 2 * 64) ^^^ (a / 128 % 2 * 128))))))) := by
  have : ∀ a : Fin 256, a.1 = (a.1 % 2) ^^^ ((a.1 / 2 % 2 * 2) ^^^ ((a.1 / 4 % 2 * 4) ^^^ ((a.1 / 8 % 2 * 8) ^^^ ((a.1 / 16 % 2 * 16) ^^^ ((a.1 / 32 % 2 * 32) ^^^ ((a.1 / 64 % 2 * 64) ^^^ (a.1 / 128 % 2 * 128))))))) := by decide +kernel
  exact this ⟨a, h⟩
def Lin (f : Nat → Nat) : Prop := ∀ a b, a < 256 → b < 256 → f (a ^^^ b) = f a ^^^ f b
theorem Lin.zero {f : Nat → Nat} (h : Lin f) : f 0 = 0 := by
  have := h 0 0 (by omega) (by omega)
  simpa using this
theorem bit_same {f g : Nat → Nat} (hf : Lin f) (hg : Lin g) {k : Nat} (e : f k = g k) (m : Nat) : f (m % 2 * k) = g (m % 2 * k) := by
  rcases Nat.mod_two_eq_zero_or_one m with h | h
  · rw [h, Nat.zero_mul, hf.zero, hg.zero]
  · rw [h, Nat.one_mul, e]
theorem lin_ext {f g : Nat → Nat} (hf : Lin f) (hg : Lin g) (h : ∀ i : Fin 8, f (2 ^ i.1) = g (2 ^ i.1)) {a : Nat} (ha : a < 256) : f a = g a := by
  have b : ∀ m k : Nat, k ≤ 128 → m % 2 * k < 256 := fun m k hk => by
    rcases Nat.mod_two_eq_zero_or_one m with h | h <;> rw [h] <;> omega
  have e0 : f (a % 2) = g (a % 2) := by have := bit_same hf hg (h 0) a; simpa using this
  have e1 := bit_same hf hg (h 1) (a / 2)
  have e2 := bit_same hf hg (h 2) (a / 4)
  have e3 := bit_same hf hg (h 3) (a / 8)
  have e4 := bit_same hf hg (h 4) (a / 16)
  have e5 := bit_same hf hg (h 5) (a / 32)
  have e6 := bit_same hf hg (h 6) (a / 64)
  have e7 := bit_same hf hg (h 7) (a / 128)
  have c7 := b (a / 128) 128 (by omega)
  have c6 := xor256 (b (a / 64) 64 (by omega)) c7
  have c5 := xor256 (b (a / 32) 32 (by omega)) c6
  have c4 := xor256 (b (a / 16) 16 (by omega)) c5
  have c3 := xor256 (b (a / 8) 8 (by omega)) c4
  have c2 := xor256 (b (a / 4) 4 (by omega)) c3
  have c1 := xor256 (b (a / 2) 2 (by omega)) c2
  have step : ∀ {F : Nat → Nat}, Lin F → F a = F (a % 2) ^^^ (F (a / 2 % 2 * 2) ^^^ (F (a / 4 % 2 * 4) ^^^ (F (a / 8 % 2 * 8) ^^^ (F (a / 16 % 2 * 16) ^^^ (F (a / 32 % 2 * 32) ^^^ (F (a / 64 % 2 * 64) ^^^ F (a / 128 % 2 * 128))))))) := fun {F} hF => by
    have e := congrArg F (bits8 ha)
    rw [hF _ _ (by omega) c1, hF _ _ (b _ _ (by omega)) c2, hF _ _ (b _ _ (by omega)) c3, hF _ _ (b _ _ (by omega)) c4, hF _ _ (b _ _ (by omega)) c5, hF _ _ (b _ _ (by omega)) c6, hF _ _ (b _ _ (by omega)) c7] at e
    exact e
  rw [step hf, step hg, e0]
  simp only [show (2 : Nat) ^ (1 : Fin 8).1 = 2 from rfl, show (2 : Nat) ^ (2 : Fin 8).1 = 4 from rfl, show (2 : Nat) ^ (3 : Fin 8).1 = 8 from rfl, show (2 : Nat) ^ (4 : Fin 8).1 = 16 from rfl, show (2 : Nat) ^ (5 : Fin 8).1 = 32 from rfl, show (2 : Nat) ^ (6 : Fin 8).1 = 64 from rfl, show (2 : Nat) ^ (7 : Fin 8).1 = 128 from rfl] at e1 e2 e3 e4 e5 e6 e7
  rw [e1, e2, e3, e4, e5, e6, e7]
theorem linL (b : Nat) : Lin fun a => Sy22.mul a b := fun a c ha hc => mul_xl b ha hc
theorem linR (a : Nat) : Lin fun b => Sy22.mul a b := fun b c _ _ => mul_xr a b c
theorem p2 (i : Fin 8) : 2 ^ i.1 < 256 := by
  have : ∀ i : Fin 8, 2 ^ i.1 < 256 := by decide
  exact this i
theorem mul_comm' {a b : Nat} (ha : a < 256) (hb : b < 256) : Sy22.mul a b = Sy22.mul b a :=
  lin_ext (linL b) (linR b) (fun i => lin_ext (linR (2 ^ i.1)) (linL (2 ^ i.1)) (fun j => by
    have : ∀ i j : Fin 8, Sy22.mul (2 ^ i.1) (2 ^ j.1) = Sy22.mul (2 ^ j.1) (2 ^ i.1) := by decide +kernel
    exact this i j) hb) ha
theorem mul_assoc' {a b c : Nat} (ha : a < 256) (hb : b < 256) (hc : c < 256) : Sy22.mul a (Sy22.mul b c) = Sy22.mul (Sy22.mul a b) c := by
  refine lin_ext (f := fun a => Sy22.mul a (Sy22.mul b c)) (g := fun a => Sy22.mul (Sy22.mul a b) c) (linL _) (fun x y hx hy => ?_) (fun i => ?_) ha
  · show Sy22.mul (Sy22.mul (x ^^^ y) b) c = _
    rw [mul_xl b hx hy, mul_xl c (mul_lt b hx) (mul_lt b hy)]
  refine lin_ext (f := fun b => Sy22.mul (2 ^ i.1) (Sy22.mul b c)) (g := fun b => Sy22.mul (Sy22.mul (2 ^ i.1) b) c) (fun x y hx hy => ?_) (fun x y hx hy => ?_) (fun j => ?_) hb
  · show Sy22.mul _ (Sy22.mul (x ^^^ y) c) = _
    rw [mul_xl c hx hy, mul_xr]
  · show Sy22.mul (Sy22.mul _ (x ^^^ y)) c = _
    rw [mul_xr, mul_xl c (mul_lt x (p2 i)) (mul_lt y (p2 i))]
  refine lin_ext (f := fun c => Sy22.mul (2 ^ i.1) (Sy22.mul (2 ^ j.1) c)) (g := fun c => Sy22.mul (Sy22.mul (2 ^ i.1) (2 ^ j.1)) c) (fun x y hx hy => ?_) (linR _) (fun k => ?_) hc
  · show Sy22.mul _ (Sy22.mul _ (x ^^^ y)) = _
    rw [mul_xr, mul_xr]
  · have : ∀ i j k : Fin 8, Sy22.mul (2 ^ i.1) (Sy22.mul (2 ^ j.1) (2 ^ k.1)) = Sy22.mul (Sy22.mul (2 ^ i.1) (2 ^ j.1)) (2 ^ k.1) := by decide +kernel
    exact this i j k
theorem mul_one' {a : Nat} (ha : a < 256) : Sy22.mul 1 a = a := by
  have : ∀ a : Fin 256, Sy22.mul 1 a.1 = a.1 := by decide +kernel
  exact this ⟨a, ha⟩
theorem power_lt {x : Nat} (h : x < 256) : ∀ n, Sy22.power x n < 256
  | 0 => by show 1 < 256; omega
  | n + 1 => mul_lt _ h
theorem power_add {x : Nat} (h : x < 256) (m : Nat) : ∀ n, Sy22.power x (n + m) = Sy22.mul (Sy22.power x n) (Sy22.power x m)
  | 0 => by rw [Nat.zero_add]; exact (mul_one' (power_lt h m)).symm
  | n + 1 => by
    rw [Nat.add_right_comm]
    show Sy22.mul x (Sy22.power x (n + m)) = Sy22.mul (Sy22.mul x (Sy22.power x n)) (Sy22.power x m)
    rw [power_add h m n, mul_assoc' h (power_lt h n) (power_lt h m)]
theorem power_one {x : Nat} (h : x < 256) : Sy22.power x 1 = x := by
  show Sy22.mul x 1 = x
  rw [mul_comm' h (by omega), mul_one' h]
def pw254 (x : Nat) : Nat :=
  let a2 := Sy22.mul x x
  let a4 := Sy22.mul a2 a2
  let a8 := Sy22.mul a4 a4
  let a16 := Sy22.mul a8 a8
  let a32 := Sy22.mul a16 a16
  let a64 := Sy22.mul a32 a32
  let a128 := Sy22.mul a64 a64
  Sy22.mul a128 (Sy22.mul a64 (Sy22.mul a32 (Sy22.mul a16 (Sy22.mul a8 (Sy22.mul a4 a2)))))
theorem pow254 {x : Nat} (h : x < 256) : Sy22.power x 254 = pw254 x := by
  have e2 : Sy22.power x 2 = Sy22.mul x x := by rw [power_add h 1 1, power_one h]
  have d : ∀ n, Sy22.power x (n + n) = Sy22.mul (Sy22.power x n) (Sy22.power x n) := fun n => power_add h n n
  have e4 := d 2
  have e8 := d 4
  have e16 := d 8
  have e32 := d 16
  have e64 := d 32
  have e128 := d 64
  have s := power_add h 126 128
  rw [power_add h 62 64, power_add h 30 32, power_add h 14 16, power_add h 6 8, power_add h 2 4] at s
  unfold pw254
  simp only [Nat.reduceAdd] at *
  rw [s, e128, e64, e32, e16, e8, e4, e2]
theorem sub_eq {x : Nat} (h : x < 256) : Sy22.sub x = (let s := pw254 x; s ^^^ (Sy22.turn s 1 ^^^ (Sy22.turn s 2 ^^^ (Sy22.turn s 3 ^^^ (Sy22.turn s 4 ^^^ 0x63))))) := by
  unfold Sy22.sub Sy22.subs
  rw [arr_getD _ h]
  dsimp only
  rw [inv_eq h, pow254 h]
theorem turn_lt {x k : Nat} (h : x < 256) (hk : k ≤ 8) : Sy22.turn x k < 256 := by
  unfold Sy22.turn
  refine Nat.or_lt_two_pow (n := 8) (by omega) ?_
  exact Nat.lt_of_le_of_lt (Nat.div_le_self _ _) h
theorem back_eq {x : Nat} (h : x < 256) : Sy22.back x = pw254 (Sy22.turn x 1 ^^^ (Sy22.turn x 3 ^^^ (Sy22.turn x 6 ^^^ 0x05))) := by
  unfold Sy22.back Sy22.backs
  rw [arr_getD _ h]
  have l : Sy22.turn x 1 ^^^ (Sy22.turn x 3 ^^^ (Sy22.turn x 6 ^^^ 0x05)) < 256 := xor256 (turn_lt h (by omega)) (xor256 (turn_lt h (by omega)) (xor256 (turn_lt h (by omega)) (by omega)))
  rw [inv_eq l, pow254 l]
end My
end
section
set_option Elab.async false
set_option linter.all false
set_option maxRecDepth 100000
set_option maxHeartbeats 2000000
namespace My
def Bytes (xs : List Nat) : Prop := ∀ x ∈ xs, x < 256
theorem Bytes.at_ {xs : List Nat} (h : Bytes xs) (i : Nat) : xs.getD i 0 < 256 := by
  by_cases hi : i < xs.length
  · rw [show xs.getD i 0 = xs[i] by simp [hi]]; exact h _ (List.getElem_mem hi)
  · rw [show xs.getD i 0 = 0 by simp [hi]]; omega
theorem Bytes.app {xs ys : List Nat} (h : Bytes xs) (h' : Bytes ys) : Bytes (xs ++ ys) := fun x hx => (List.mem_append.mp hx).elim (h x) (h' x)
theorem Bytes.take {xs : List Nat} (h : Bytes xs) (n : Nat) : Bytes (xs.take n) := fun x hx => h x (List.mem_of_mem_take hx)
theorem Bytes.drop {xs : List Nat} (h : Bytes xs) (n : Nat) : Bytes (xs.drop n) := fun x hx => h x (List.mem_of_mem_drop hx)
theorem Bytes.nil : Bytes [] := fun _ h => by cases h
theorem Bytes.flat {w : List (List Nat)} (h : ∀ x ∈ w, Bytes x) : Bytes w.flatten := fun x hx => by
  obtain ⟨l, hl, hx⟩ := List.mem_flatten.mp hx
  exact h l hl x hx
/-! ### columns -/
theorem xor_cancel (a b : Nat) : a ^^^ (a ^^^ b) = b := by rw [← Nat.xor_assoc, Nat.xor_self, Nat.zero_xor]
theorem xlc (a b c : Nat) : a ^^^ (b ^^^ c) = b ^^^ (a ^^^ c) := by rw [← Nat.xor_assoc, Nat.xor_comm a b, Nat.xor_assoc]
theorem getD_app1 {xs ys : List Nat} {i : Nat} (h : i < xs.length) : (xs ++ ys).getD i 0 = xs.getD i 0 := by
  simp [List.getD, List.getElem?_append_left h]
theorem getD_app2 {xs ys : List Nat} {i : Nat} (h : xs.length ≤ i) : (xs ++ ys).getD i 0 = ys.getD (i - xs.length) 0 := by
  simp [List.getD, List.getElem?_append_right h]
theorem flatMap_same {α β : Type} {l : List α} {f g : α → List β} (h : ∀ x ∈ l, f x = g x) : l.flatMap f = l.flatMap g := by
  induction l with
  | nil => rfl
  | cons a l ih => rw [List.flatMap_cons, List.flatMap_cons, h a List.mem_cons_self, ih fun x hx => h x (List.mem_cons_of_mem _ hx)]
theorem foldl_range {α : Type} (f : α → α) (a : α) : ∀ n, (List.range (n + 1)).foldl (fun x (_ : Nat) => f x) a = f ((List.range n).foldl (fun x (_ : Nat) => f x) a) := fun n => by
  rw [List.range_succ, List.foldl_append]; rfl
theorem Bytes.map {xs : List Nat} {f : Nat → Nat} (h : Bytes xs) (hf : ∀ x, x < 256 → f x < 256) : Bytes (xs.map f) := fun y hy => by
  obtain ⟨x, hx, rfl⟩ := List.mem_map.mp hy
  exact hf x (h x hx)
theorem Bytes.xor {xs ys : List Nat} (h : Bytes xs) (h' : Bytes ys) : Bytes (Sy22.xor xs ys) := fun z hz => by
  unfold Sy22.xor at hz
  rw [List.mem_iff_getElem?] at hz
  obtain ⟨i, hi⟩ := hz
  rw [List.getElem?_zipWith] at hi
  cases e1 : xs[i]? with
  | none => rw [e1] at hi; simp at hi
  | some a =>
    cases e2 : ys[i]? with
    | none => rw [e1, e2] at hi; simp at hi
    | some b =>
      rw [e1, e2] at hi
      have : a ^^^ b = z := by simpa using hi
      subst this
      exact xor256 (h a (List.mem_of_getElem? e1)) (h' b (List.mem_of_getElem? e2))
theorem xor_len (xs ys : List Nat) : (Sy22.xor xs ys).length = min xs.length ys.length := by unfold Sy22.xor; simp
theorem part_len {key : List Nat} {i n : Nat} (h : i + n ≤ key.length) : (Sy22.part key i n).length = n := by unfold Sy22.part; simp; omega
theorem part_bytes {key : List Nat} (h : Bytes key) (i n : Nat) : Bytes (Sy22.part key i n) := (h.drop i).take n
theorem parts_flatM (m : Nat) (key : List Nat) : ∀ n, m * n ≤ key.length → ((List.range n).map fun (i : Nat) => Sy22.part key (m * i) m).flatten = key.take (m * n)
  | 0, _ => by simp
  | n + 1, h => by
    rw [Nat.mul_add, Nat.mul_one] at h
    rw [List.range_succ, List.map_append, List.flatten_append, parts_flatM m key n (by omega)]
    simp only [List.map_cons, List.map_nil, List.flatten_cons, List.flatten_nil, List.append_nil]
    unfold Sy22.part
    rw [Nat.mul_add, Nat.mul_one, List.take_add]
def ans (z : Int) (ls : List (List Nat)) : List Int := 1 :: z :: ls.flatMap fun l => (l.length : Int) :: l.map fun (n : Nat) => (n : Int)
theorem ans_snoc (z : Int) (ls : List (List Nat)) (l : List Nat) : ans z (ls ++ [l]) = (ans z ls ++ [(l.length : Int)]) ++ l.map fun (n : Nat) => (n : Int) := by
  unfold ans
  simp
theorem ans_le (z : Int) (l1 l2 : List (List Nat)) : (ans z l1).length ≤ (ans z (l1 ++ l2)).length := by
  unfold ans
  simp
theorem f_ans (a : Sy22.Ans) : (Sy22Neutral.inRows a).flatMap (fun (l : List Int) => (l.length : Int) :: l) = ans a.v a.rows := by
  unfold Sy22Neutral.inRows ans Sy22Neutral.ints
  rw [List.flatMap_cons, List.flatMap_map]
  simp
/-- what is asked of a key -/
theorem just_of {l : List Int} {n : Nat} (h : Sy22Neutral.just l n = true) : (∀ x ∈ l, 0 ≤ x ∧ x ≤ 255) ∧ l.length = n := by
  unfold Sy22Neutral.just at h
  rw [Bool.and_eq_true, List.all_eq_true] at h
  refine ⟨fun x hx => ?_, by simpa using h.2⟩
  have := h.1 x hx
  unfold Sy22Neutral.byte Sy22Neutral.within at this
  simpa using this
theorem nats_len (l : List Int) : (Sy22Neutral.nats l).length = l.length := by unfold Sy22Neutral.nats; simp
theorem nats_bytes {l : List Int} (h : ∀ x ∈ l, 0 ≤ x ∧ x ≤ 255) : Bytes (Sy22Neutral.nats l) := fun y hy => by
  unfold Sy22Neutral.nats at hy
  obtain ⟨x, hx, rfl⟩ := List.mem_map.mp hy
  have := h x hx
  omega
theorem nats_back {l : List Int} (h : ∀ x ∈ l, 0 ≤ x ∧ x ≤ 255) : (Sy22Neutral.nats l).map (fun (n : Nat) => (n : Int)) = l := by
  unfold Sy22Neutral.nats
  rw [List.map_map]
  refine (List.map_congr_left fun x hx => ?_).trans (List.map_id l)
  have := h x hx
  show ((x.toNat : Nat) : Int) = x
  omega
theorem word_of {z : Int} (h : Sy22Neutral.word z = true) : 0 ≤ z ∧ z ≤ 18446744073709551615 := by
  unfold Sy22Neutral.word Sy22Neutral.within at h
  simpa using h
theorem some_of {l : List Int} {n : Nat} (h : Sy22Neutral.some_ l n = true) : (∀ x ∈ l, 0 ≤ x ∧ x ≤ 255) ∧ l.length ≤ n := by
  unfold Sy22Neutral.some_ at h
  rw [Bool.and_eq_true, List.all_eq_true] at h
  refine ⟨fun x hx => ?_, by simpa using h.2⟩
  have := h.1 x hx
  unfold Sy22Neutral.byte Sy22Neutral.within at this
  simpa using this
theorem take_snoc {α : Type} : ∀ {l : List α} {i : Nat} {x : α}, l[i]? = some x → l.take (i + 1) = l.take i ++ [x]
  | [], i, x, h => by simp at h
  | a :: l, 0, x, h => by
    have e : a = x := Option.some.inj h
    subst e
    rfl
  | a :: l, i + 1, x, h => by
    have ih := take_snoc (l := l) (i := i) (x := x) h
    show a :: l.take (i + 1) = a :: l.take i ++ [x]
    rw [ih]
    rfl
end My
end
section
set_option Elab.async false
set_option linter.all false
set_option maxRecDepth 100000
set_option maxHeartbeats 2000000
namespace My
/-! ### a factor's products, the inverse -/
def tw : Nat → Nat → Nat
  | 0, a => a
  | n + 1, a => tw n (Sy22.twice a)
theorem tw_succ : ∀ n a, tw (n + 1) a = Sy22.twice (tw n a)
  | 0, a => rfl
  | n + 1, a => tw_succ n (Sy22.twice a)
theorem tw_lt : ∀ n {a}, a < 256 → tw n a < 256
  | 0, _, h => h
  | n + 1, _, h => tw_lt n (twice_lt h)
theorem prod_low : ∀ n f b, b < 2 ^ n → Sy22.product (n + 1) f b = Sy22.product n f b
  | 0, f, b, h => by
    have : b = 0 := by omega
    subst this
    simp [Sy22.product]
  | n + 1, f, b, h => by
    have ih := prod_low n (Sy22.twice f) (b / 2) (by rw [Nat.pow_succ] at h; omega)
    show (if b % 2 = 1 then f else 0) ^^^ Sy22.product (n + 1) (Sy22.twice f) (b / 2) = (if b % 2 = 1 then f else 0) ^^^ Sy22.product n (Sy22.twice f) (b / 2)
    rw [ih]
theorem prod_high : ∀ n f b, b < 2 ^ n → Sy22.product (n + 1) f (2 ^ n + b) = Sy22.product n f b ^^^ tw n f
  | 0, f, b, h => by
    have : b = 0 := by omega
    subst this
    simp [Sy22.product, tw]
  | n + 1, f, b, h => by
    rw [Nat.pow_succ] at h ⊢
    have ih := prod_high n (Sy22.twice f) (b / 2) (by omega)
    show (if (2 ^ n * 2 + b) % 2 = 1 then f else 0) ^^^ Sy22.product (n + 1) (Sy22.twice f) ((2 ^ n * 2 + b) / 2) = ((if b % 2 = 1 then f else 0) ^^^ Sy22.product n (Sy22.twice f) (b / 2)) ^^^ tw n (Sy22.twice f)
    rw [show (2 ^ n * 2 + b) % 2 = b % 2 by omega, show (2 ^ n * 2 + b) / 2 = 2 ^ n + b / 2 by omega, ih, Nat.xor_assoc]
def tab (f n : Nat) : List Nat := (List.range (2 ^ n)).map (Sy22.product n f)
theorem tab_len (f n : Nat) : (tab f n).length = 2 ^ n := by simp [tab]
theorem range_add' (a b : Nat) : List.range (a + b) = List.range a ++ (List.range b).map (a + ·) := List.range_add ..
theorem tab_succ (f n : Nat) : tab f (n + 1) = tab f n ++ (tab f n).map (· ^^^ tw n f) := by
  unfold tab
  rw [Nat.pow_succ, Nat.mul_two, range_add', List.map_append, List.map_map, List.map_map]
  congr 1
  · exact List.map_congr_left fun b hb => prod_low n f b (List.mem_range.mp hb)
  · exact List.map_congr_left fun b hb => prod_high n f b (List.mem_range.mp hb)
theorem tab_at {f b : Nat} (h : b < 256) : (tab f 8).getD b 0 = Sy22.mul f b := by
  unfold tab
  rw [List.getD_eq_getElem?_getD, List.getElem?_map, List.getElem?_range (by omega)]
  rfl
theorem inv_lt {a : Nat} (h : a < 256) : Sy22.inv a < 256 := by
  rw [inv_eq h]; exact power_lt h _
theorem inv_mul {a : Nat} (h0 : a ≠ 0) (h : a < 256) : Sy22.mul a (Sy22.inv a) = 1 := by
  rw [inv_eq h, pow254 h]
  have : ∀ a : Fin 256, a.1 ≠ 0 → Sy22.mul a.1 (pw254 a.1) = 1 := by decide +kernel
  exact this ⟨a, h⟩ h0
theorem inv_uniq {a j : Nat} (h : a < 256) (h0 : a ≠ 0) (hj : j < 256) (e : Sy22.mul a j = 1) : j = Sy22.inv a := by
  have h1 := mul_assoc' (inv_lt h) h hj
  rw [e, mul_comm' (inv_lt h) h, inv_mul h0 h, mul_one' hj, mul_comm' (inv_lt h) (by omega), mul_one' (inv_lt h)] at h1
  exact h1.symm
theorem xor_ne {a b : Nat} (h : a ≠ b) : a ^^^ b ≠ 0 := by
  intro e
  have : a ^^^ (a ^^^ b) = a := by rw [e, Nat.xor_zero]
  rw [xor_cancel] at this
  exact h this.symm
/-! ### shares -/
/-- a row and a factor times another -/
def addM (row : List Nat) (f : Nat) (other : List Nat) : List Nat := (List.range row.length).map fun i => row.getD i 0 ^^^ Sy22.mul f (other.getD i 0)
theorem addM_len (row : List Nat) (f : Nat) (other : List Nat) : (addM row f other).length = row.length := by simp [addM]
def shN (data : List (List Nat)) (k p len n : Nat) : List Nat := (List.range len).map fun x => (List.range n).foldl (fun s j => s ^^^ Sy22.mul (Sy22.inv (p ^^^ j)) (Sy22.at_ (data.getD j []) x)) 0
theorem shN_len (data : List (List Nat)) (k p len n : Nat) : (shN data k p len n).length = len := by simp [shN]
theorem getD_map_range {f : Nat → Nat} {n i : Nat} (h : i < n) : ((List.range n).map f).getD i 0 = f i := by
  rw [List.getD_eq_getElem?_getD, List.getElem?_map, List.getElem?_range h]; rfl
theorem shN_succ (data : List (List Nat)) (k p len n : Nat) : addM (shN data k p len n) (Sy22.inv (p ^^^ n)) (data.getD n []) = shN data k p len (n + 1) := by
  unfold addM
  rw [shN_len]
  refine List.map_congr_left fun x hx => ?_
  have hx : x < len := List.mem_range.mp hx
  unfold shN
  rw [getD_map_range hx, List.range_succ, List.foldl_append]
  rfl
theorem shN_zero (data : List (List Nat)) (k p len : Nat) : shN data k p len 0 = List.replicate len 0 := by
  unfold shN
  refine List.ext_getElem? fun i => ?_
  simp [List.getElem?_replicate]
  by_cases h : i < len <;> simp [h, List.getElem?_range]
theorem shN_share {data : List (List Nat)} {k len i : Nat} (h : data.length = k) : shN data k (k + i) len k = Sy22.share data len i := by
  unfold shN Sy22.share
  rw [h]
theorem addM_bytes {row other : List Nat} {f : Nat} (h : Bytes row) (hf : f < 256) : Bytes (addM row f other) := fun y hy => by
  unfold addM at hy
  obtain ⟨i, _, rfl⟩ := List.mem_map.mp hy
  exact xor256 (h.at_ i) (mul_lt _ hf)
theorem rep_bytes (n : Nat) : Bytes (List.replicate n 0) := fun y hy => by
  rw [List.mem_replicate] at hy; omega
theorem make_eq (k m n : Int) (data : List Int) : PySy22.make k m n data = ans (Sy22.does (.make k.toNat m.toNat n.toNat (Sy22Neutral.nats data))).v (Sy22.does (.make k.toNat m.toNat n.toNat (Sy22Neutral.nats data))).rows := by
  rw [← f_ans]; rfl
end My
end
section
set_option Elab.async false
set_option linter.all false
set_option maxRecDepth 100000
set_option maxHeartbeats 2000000
namespace My
/-! ### the field, once more -/
theorem mul_zero' (a : Nat) : Sy22.mul a 0 = 0 := (linR a).zero
theorem zero_mul' (a : Nat) : Sy22.mul 0 a = 0 := (linL a).zero
theorem mul_one'' {a : Nat} (h : a < 256) : Sy22.mul a 1 = a := by rw [mul_comm' h (by decide), mul_one' h]
theorem inv_c {a w : Nat} (h0 : a ≠ 0) (h : a < 256) (hw : w < 256) : Sy22.mul a (Sy22.mul (Sy22.inv a) w) = w := by
  rw [mul_assoc' h (inv_lt h) hw, inv_mul h0 h, mul_one' hw]
theorem inv_c' {a w : Nat} (h0 : a ≠ 0) (h : a < 256) (hw : w < 256) : Sy22.mul (Sy22.inv a) (Sy22.mul a w) = w := by
  rw [mul_assoc' (inv_lt h) h hw, mul_comm' (inv_lt h) h, inv_mul h0 h, mul_one' hw]
theorem mul_swap {a b w : Nat} (ha : a < 256) (hb : b < 256) (hw : w < 256) : Sy22.mul a (Sy22.mul b w) = Sy22.mul b (Sy22.mul a w) := by
  rw [mul_assoc' ha hb hw, mul_comm' ha hb, ← mul_assoc' hb ha hw]
theorem mul_eq_zero {a w : Nat} (h0 : a ≠ 0) (h : a < 256) (hw : w < 256) (e : Sy22.mul a w = 0) : w = 0 := by
  rw [← inv_c' h0 h hw, e, mul_zero']
theorem inv_ne {a : Nat} (h0 : a ≠ 0) (h : a < 256) : Sy22.inv a ≠ 0 := fun e => by
  have := inv_mul h0 h
  rw [e, mul_zero'] at this
  cases this
theorem xor_eq {a b : Nat} (h : a ^^^ b = 0) : a = b := by
  apply Classical.byContradiction
  intro ne
  exact xor_ne ne h
/-! ### sums over lists -/
def sumL (f : Nat → Nat) : List Nat → Nat
  | [] => 0
  | j :: l => f j ^^^ sumL f l
theorem sumL_lt {f : Nat → Nat} : ∀ {l : List Nat}, (∀ j ∈ l, f j < 256) → sumL f l < 256
  | [], _ => by show 0 < 256; decide
  | j :: l, h => xor256 (h j List.mem_cons_self) (sumL_lt fun x hx => h x (List.mem_cons_of_mem _ hx))
theorem sumL_same {f g : Nat → Nat} : ∀ {l : List Nat}, (∀ j ∈ l, f j = g j) → sumL f l = sumL g l
  | [], _ => rfl
  | j :: l, h => by
    show f j ^^^ sumL f l = g j ^^^ sumL g l
    rw [h j List.mem_cons_self, sumL_same fun x hx => h x (List.mem_cons_of_mem _ hx)]
theorem sumL_zero {f : Nat → Nat} {l : List Nat} (h : ∀ j ∈ l, f j = 0) : sumL f l = 0 := by
  induction l with
  | nil => rfl
  | cons j l ih =>
    show f j ^^^ sumL f l = 0
    rw [h j List.mem_cons_self, ih fun x hx => h x (List.mem_cons_of_mem _ hx)]
    rfl
theorem sumL_xor (f g : Nat → Nat) : ∀ l : List Nat, sumL (fun j => f j ^^^ g j) l = sumL f l ^^^ sumL g l
  | [] => by show 0 = 0 ^^^ 0; decide
  | j :: l => by
    show (f j ^^^ g j) ^^^ sumL (fun j => f j ^^^ g j) l = (f j ^^^ sumL f l) ^^^ (g j ^^^ sumL g l)
    rw [sumL_xor f g l, xor4]
theorem sumL_mul (c : Nat) (f : Nat → Nat) : ∀ l : List Nat, Sy22.mul c (sumL f l) = sumL (fun j => Sy22.mul c (f j)) l
  | [] => mul_zero' c
  | j :: l => by
    show Sy22.mul c (f j ^^^ sumL f l) = Sy22.mul c (f j) ^^^ sumL (fun j => Sy22.mul c (f j)) l
    rw [mul_xr, sumL_mul c f l]
/-! ### Cauchy -/
theorem split3 (a b c : Nat) : a ^^^ b = (b ^^^ c) ^^^ (a ^^^ c) := by
  rw [Nat.xor_comm b c, Nat.xor_assoc, ← Nat.xor_assoc b a c, Nat.xor_comm (b ^^^ a) c, xor_cancel, Nat.xor_comm]
theorem cauchy : ∀ (js xs : List Nat) (v : Nat → Nat), js.length = xs.length → js.Nodup → xs.Nodup → (∀ j ∈ js, j < 256) → (∀ x ∈ xs, x < 256) → (∀ x ∈ xs, ∀ j ∈ js, x ≠ j) → (∀ j ∈ js, v j < 256) →
    (∀ x ∈ xs, sumL (fun j => Sy22.mul (Sy22.inv (x ^^^ j)) (v j)) js = 0) → ∀ j ∈ js, v j = 0
  | [], _, _, _, _, _, _, _, _, _, _ => fun _ h => by cases h
  | j0 :: js, [], _, hl, _, _, _, _, _, _, _ => by cases hl
  | j0 :: js, x0 :: xs, v, hl, nj, nx, bj, bx, ne, bv, hS => by
    have nj' := List.nodup_cons.mp nj
    have nx' := List.nodup_cons.mp nx
    have bj0 := bj j0 List.mem_cons_self
    have bx0 := bx x0 List.mem_cons_self
    have iv : ∀ x ∈ x0 :: xs, ∀ j ∈ j0 :: js, x ^^^ j < 256 ∧ x ^^^ j ≠ 0 := fun x hx j hj => ⟨xor256 (bx x hx) (bj j hj), xor_ne (ne x hx j hj)⟩
    have hT : ∀ x ∈ x0 :: xs, sumL (fun j => Sy22.mul (Sy22.inv (x ^^^ j)) (Sy22.mul (j0 ^^^ j) (v j))) js = sumL v (j0 :: js) := fun x hx => by
      have h1 : Sy22.mul (j0 ^^^ x) (sumL (fun j => Sy22.mul (Sy22.inv (x ^^^ j)) (v j)) (j0 :: js)) = 0 := by rw [hS x hx, mul_zero']
      rw [sumL_mul] at h1
      have h2 : sumL (fun j => Sy22.mul (j0 ^^^ x) (Sy22.mul (Sy22.inv (x ^^^ j)) (v j))) (j0 :: js) = sumL (fun j => v j ^^^ Sy22.mul (Sy22.inv (x ^^^ j)) (Sy22.mul (j0 ^^^ j) (v j))) (j0 :: js) := sumL_same fun j hj => by
        obtain ⟨i1, i2⟩ := iv x hx j hj
        have hv := bv j hj
        have hi := inv_lt i1
        rw [split3 j0 x j, mul_xl _ i1 (xor256 bj0 (bj j hj)), inv_c i2 i1 hv, mul_swap (xor256 bj0 (bj j hj)) hi hv]
      rw [h2, sumL_xor] at h1
      have h3 := xor_eq h1
      rw [h3]
      show _ = Sy22.mul (Sy22.inv (x ^^^ j0)) (Sy22.mul (j0 ^^^ j0) (v j0)) ^^^ _
      rw [Nat.xor_self, zero_mul', mul_zero', Nat.zero_xor]
    have hw : ∀ x ∈ xs, sumL (fun j => Sy22.mul (Sy22.inv (x ^^^ j)) (Sy22.mul (Sy22.inv (x0 ^^^ j)) (Sy22.mul (j0 ^^^ j) (v j)))) js = 0 := fun x hx => by
      have hxm := List.mem_cons_of_mem x0 hx
      have e1 := hT x hxm
      rw [← hT x0 List.mem_cons_self] at e1
      have h1 : sumL (fun j => Sy22.mul (Sy22.inv (x ^^^ j)) (Sy22.mul (j0 ^^^ j) (v j)) ^^^ Sy22.mul (Sy22.inv (x0 ^^^ j)) (Sy22.mul (j0 ^^^ j) (v j))) js = 0 := by rw [sumL_xor, e1, Nat.xor_self]
      have h2 : sumL (fun j => Sy22.mul (Sy22.inv (x ^^^ j)) (Sy22.mul (j0 ^^^ j) (v j)) ^^^ Sy22.mul (Sy22.inv (x0 ^^^ j)) (Sy22.mul (j0 ^^^ j) (v j))) js = sumL (fun j => Sy22.mul (x ^^^ x0) (Sy22.mul (Sy22.inv (x ^^^ j)) (Sy22.mul (Sy22.inv (x0 ^^^ j)) (Sy22.mul (j0 ^^^ j) (v j))))) js := sumL_same fun j hj => by
        have hjm := List.mem_cons_of_mem j0 hj
        obtain ⟨i1, i2⟩ := iv x hxm j hjm
        obtain ⟨i3, i4⟩ := iv x0 List.mem_cons_self j hjm
        have hu := mul_lt (v j) (xor256 bj0 (bj j hjm))
        have hi := inv_lt i1
        have hi0 := inv_lt i3
        rw [show x ^^^ x0 = (x ^^^ j) ^^^ (x0 ^^^ j) by rw [Nat.xor_comm x0 j, ← Nat.xor_assoc, Nat.xor_assoc x j j, Nat.xor_self, Nat.xor_zero], mul_xl _ i1 i3, inv_c i2 i1 (mul_lt _ hi0), mul_swap hi hi0 hu, inv_c i4 i3 (mul_lt _ hi), Nat.xor_comm]
      rw [h2, ← sumL_mul] at h1
      have bne : x ^^^ x0 ≠ 0 := xor_ne fun (e : x = x0) => nx'.1 (by rw [← e]; exact hx)
      refine mul_eq_zero bne (xor256 (bx x hxm) bx0) (sumL_lt fun j hj => mul_lt _ (inv_lt (iv x hxm j (List.mem_cons_of_mem _ hj)).1)) h1
    have ih := cauchy js xs (fun j => Sy22.mul (Sy22.inv (x0 ^^^ j)) (Sy22.mul (j0 ^^^ j) (v j))) (by simpa using hl) nj'.2 nx'.2 (fun j hj => bj j (List.mem_cons_of_mem _ hj)) (fun x hx => bx x (List.mem_cons_of_mem _ hx))
      (fun x hx j hj => ne x (List.mem_cons_of_mem _ hx) j (List.mem_cons_of_mem _ hj)) (fun j hj => mul_lt _ (inv_lt (iv x0 List.mem_cons_self j (List.mem_cons_of_mem _ hj)).1)) hw
    have hz : ∀ j ∈ js, v j = 0 := fun j hj => by
      have hjm := List.mem_cons_of_mem j0 hj
      obtain ⟨i3, i4⟩ := iv x0 List.mem_cons_self j hjm
      have h1 := mul_eq_zero (inv_ne i4 i3) (inv_lt i3) (mul_lt _ (xor256 bj0 (bj j hjm))) (ih j hj)
      exact mul_eq_zero (xor_ne fun (e : j0 = j) => nj'.1 (by rw [e]; exact hj)) (xor256 bj0 (bj j hjm)) (bv j hjm) h1
    intro j hj
    rcases List.mem_cons.mp hj with rfl | hj
    · have h1 := hS x0 List.mem_cons_self
      have h2 : sumL (fun j => Sy22.mul (Sy22.inv (x0 ^^^ j)) (v j)) js = 0 := sumL_zero fun j hj => by rw [hz j hj, mul_zero']
      have h1 : Sy22.mul (Sy22.inv (x0 ^^^ j)) (v j) ^^^ sumL (fun j => Sy22.mul (Sy22.inv (x0 ^^^ j)) (v j)) js = 0 := h1
      rw [h2, Nat.xor_zero] at h1
      obtain ⟨i3, i4⟩ := iv x0 List.mem_cons_self j hj
      exact mul_eq_zero (inv_ne i4 i3) (inv_lt i3) (bv j hj) h1
    · exact hz j hj
end My
end
section
set_option Elab.async false
set_option linter.all false
set_option maxRecDepth 100000
set_option maxHeartbeats 2000000
namespace My
theorem sumL_append (f : Nat → Nat) : ∀ l m : List Nat, sumL f (l ++ m) = sumL f l ^^^ sumL f m
  | [], m => by show sumL f m = 0 ^^^ sumL f m; rw [Nat.zero_xor]
  | j :: l, m => by
    show f j ^^^ sumL f (l ++ m) = (f j ^^^ sumL f l) ^^^ sumL f m
    rw [sumL_append f l m, Nat.xor_assoc]
theorem sumL_succ (f : Nat → Nat) (n : Nat) : sumL f (List.range (n + 1)) = sumL f (List.range n) ^^^ f n := by
  rw [List.range_succ, sumL_append]
  show _ ^^^ (f n ^^^ 0) = _
  rw [Nat.xor_zero]
theorem sumL_map (f g : Nat → Nat) : ∀ l : List Nat, sumL f (l.map g) = sumL (fun j => f (g j)) l
  | [] => rfl
  | j :: l => by show f (g j) ^^^ _ = f (g j) ^^^ _; rw [sumL_map f g l]
theorem sumL_single (f : Nat → Nat) (i : Nat) : ∀ n, (∀ j, j < n → j ≠ i → f j = 0) → sumL f (List.range n) = if i < n then f i else 0
  | 0, _ => rfl
  | n + 1, h => by
    rw [sumL_succ, sumL_single f i n fun j hj => h j (by omega)]
    by_cases h1 : i < n
    · rw [if_pos h1, if_pos (by omega), h n (by omega) (by omega), Nat.xor_zero]
    · by_cases h2 : i = n
      · subst h2
        rw [if_neg h1, if_pos (by omega), Nat.zero_xor]
      · rw [if_neg h1, if_neg (by omega), h n (by omega) (by omega)]
        rfl
theorem sumL_cut (f : Nat → Nat) {n m : Nat} (hnm : n ≤ m) (h : ∀ j, n ≤ j → j < m → f j = 0) : sumL f (List.range m) = sumL f (List.range n) := by
  obtain ⟨d, rfl⟩ : ∃ d, m = n + d := ⟨m - n, by omega⟩
  rw [List.range_add, sumL_append, sumL_map, sumL_zero fun j hj => h (n + j) (by omega) (by have := List.mem_range.mp hj; omega), Nat.xor_zero]
def dot (n : Nat) (r v : Nat → Nat) : Nat := sumL (fun j => Sy22.mul (r j) (v j)) (List.range n)
abbrev Mat := Nat → Nat → Nat
def MB (M : Mat) : Prop := ∀ i j, M i j < 256
def VB (v : Nat → Nat) : Prop := ∀ j, v j < 256
theorem dot_lt {n : Nat} {r v : Nat → Nat} (hr : ∀ j, r j < 256) : dot n r v < 256 := sumL_lt fun j _ => mul_lt _ (hr j)
theorem dot_scale {n f : Nat} {r v : Nat → Nat} (hf : f < 256) (hr : ∀ j, r j < 256) (hv : VB v) : dot n (fun j => Sy22.mul f (r j)) v = Sy22.mul f (dot n r v) := by
  unfold dot
  rw [sumL_mul]
  exact sumL_same fun j _ => (mul_assoc' hf (hr j) (hv j)).symm
theorem dot_add {n g : Nat} {r b v : Nat → Nat} (hg : g < 256) (hr : ∀ j, r j < 256) (hb : ∀ j, b j < 256) (hv : VB v) : dot n (fun j => r j ^^^ Sy22.mul g (b j)) v = dot n r v ^^^ Sy22.mul g (dot n b v) := by
  rw [← dot_scale hg hb hv]
  unfold dot
  rw [← sumL_xor]
  exact sumL_same fun j _ => mul_xl _ (hr j) (mul_lt _ hg)
/-- one column cleared by the row of its place -/
def elim (c : Nat) (M : Mat) : Mat := fun i j => if i = c then Sy22.mul (Sy22.inv (M c c)) (M c j) else M i j ^^^ Sy22.mul (M i c) (Sy22.mul (Sy22.inv (M c c)) (M c j))
theorem elim_b {c : Nat} {M : Mat} (h : MB M) : MB (elim c M) := fun i j => by
  unfold elim
  split
  · exact mul_lt _ (inv_lt (h c c))
  · exact xor256 (h i j) (mul_lt _ (h i c))
theorem dot_elim_c {N c : Nat} {M : Mat} {v : Nat → Nat} (h : MB M) (hv : VB v) : dot N (elim c M c) v = Sy22.mul (Sy22.inv (M c c)) (dot N (M c) v) := by
  rw [← dot_scale (inv_lt (h c c)) (h c) hv]
  unfold elim
  rw [show (fun j => if c = c then Sy22.mul (Sy22.inv (M c c)) (M c j) else M c j ^^^ Sy22.mul (M c c) (Sy22.mul (Sy22.inv (M c c)) (M c j))) = fun j => Sy22.mul (Sy22.inv (M c c)) (M c j) from funext fun j => if_pos rfl]
theorem dot_elim_i {N c i : Nat} {M : Mat} {v : Nat → Nat} (h : MB M) (hv : VB v) (hi : i ≠ c) : dot N (elim c M i) v = dot N (M i) v ^^^ Sy22.mul (M i c) (Sy22.mul (Sy22.inv (M c c)) (dot N (M c) v)) := by
  rw [← dot_scale (inv_lt (h c c)) (h c) hv, ← dot_add (h i c) (h i) (fun j => mul_lt _ (inv_lt (h c c))) hv]
  unfold elim
  rw [show (fun j => if i = c then Sy22.mul (Sy22.inv (M c c)) (M c j) else M i j ^^^ Sy22.mul (M i c) (Sy22.mul (Sy22.inv (M c c)) (M c j))) = fun j => M i j ^^^ Sy22.mul (M i c) (Sy22.mul (Sy22.inv (M c c)) (M c j)) from funext fun j => if_neg hi]
def Sol (N : Nat) (M : Mat) (I : Nat → Prop) (v : Nat → Nat) : Prop := ∀ i, I i → dot N (M i) v = 0
theorem sol_elim {N c : Nat} {M : Mat} {I : Nat → Prop} {v : Nat → Nat} (h : MB M) (hv : VB v) (hp : M c c ≠ 0) (hc : I c) : Sol N (elim c M) I v ↔ Sol N M I v := by
  have ec := dot_elim_c (N := N) (c := c) h hv
  constructor
  · intro s
    have h0 := s c hc
    rw [ec] at h0
    have hz := mul_eq_zero (inv_ne hp (h c c)) (inv_lt (h c c)) (dot_lt (h c)) h0
    intro i hi
    by_cases e : i = c
    · rw [e]; exact hz
    · have h1 := s i hi
      rw [dot_elim_i h hv e, hz, mul_zero', mul_zero', Nat.xor_zero] at h1
      exact h1
  · intro s i hi
    by_cases e : i = c
    · rw [e, ec, s c hc, mul_zero']
    · rw [dot_elim_i h hv e, s c hc, mul_zero', mul_zero', Nat.xor_zero, s i hi]
def Unit (k c : Nat) (M : Mat) : Prop := ∀ j, j < c → ∀ i, i < k → M i j = if i = j then 1 else 0
theorem unit_elim {k c : Nat} {M : Mat} (h : MB M) (hp : M c c ≠ 0) (hc : c < k) (U : Unit k c M) : Unit k (c + 1) (elim c M) := by
  intro j hj i hi
  have hinv := inv_lt (h c c)
  unfold elim
  by_cases hjc : j = c
  · subst hjc
    have e1 : Sy22.mul (Sy22.inv (M j j)) (M j j) = 1 := by rw [mul_comm' hinv (h j j), inv_mul hp (h j j)]
    rw [e1]
    by_cases e : i = j
    · rw [if_pos e, if_pos e]
    · rw [if_neg e, if_neg e, mul_one'' (h i j), Nat.xor_self]
  · have e0 : M c j = 0 := by rw [U j (by omega) c hc, if_neg fun e => hjc e.symm]
    rw [e0, mul_zero', mul_zero']
    by_cases e : i = c
    · rw [if_pos e, if_neg (by omega)]
    · rw [if_neg e, Nat.xor_zero, U j (by omega) i hi]
/-- what a column without a pivot would be told by -/
def kv (c : Nat) (M : Mat) : Nat → Nat := fun j => if j < c then M j c else if j = c then 1 else 0
theorem kv_b {c : Nat} {M : Mat} (h : MB M) : VB (kv c M) := fun j => by
  unfold kv
  split
  · exact h _ _
  · split <;> decide
theorem kv_sol {N k c i : Nat} {M : Mat} (h : MB M) (U : Unit k c M) (hN : c < N) (hi : i < k) (hz : i < c ∨ M i c = 0) : dot N (M i) (kv c M) = 0 := by
  unfold dot
  rw [sumL_cut (n := c + 1) _ (by omega) fun j h1 h2 => ?_, sumL_succ]
  · have e1 : Sy22.mul (M i c) (kv c M c) = M i c := by
      unfold kv
      rw [if_neg (by omega), if_pos rfl, mul_one'' (h i c)]
    have e2 : sumL (fun j => Sy22.mul (M i j) (kv c M j)) (List.range c) = if i < c then M i c else 0 := by
      rw [sumL_single _ i c fun j hj hne => ?_]
      · by_cases hic : i < c
        · rw [if_pos hic, if_pos hic, U i hic i hi, if_pos rfl]
          unfold kv
          rw [if_pos hic, mul_one' (h i c)]
        · rw [if_neg hic, if_neg hic]
      · rw [U j hj i hi, if_neg fun e => hne e.symm, zero_mul']
    rw [e1, e2]
    by_cases hic : i < c
    · rw [if_pos hic, Nat.xor_self]
    · rw [if_neg hic, Nat.zero_xor]
      exact hz.resolve_left hic
  · unfold kv
    rw [if_neg (by omega), if_neg (by omega), mul_zero']
/-- a solution of bytes at x -/
def vec (k x : Nat) (D : Nat → Nat) : Nat → Nat := fun j => if j < k then D j else if j = k + x then 1 else 0
theorem vec_b {k x : Nat} {D : Nat → Nat} (h : VB D) : VB (vec k x D) := fun j => by
  unfold vec
  split
  · exact h _
  · split <;> decide
theorem dot_vec {k len x : Nat} {r D : Nat → Nat} (hr : ∀ j, r j < 256) (hx : x < len) : dot (k + len) r (vec k x D) = dot k r D ^^^ r (k + x) := by
  unfold dot
  rw [List.range_add, sumL_append, sumL_map]
  congr 1
  · exact sumL_same fun j hj => by
      unfold vec
      rw [if_pos (List.mem_range.mp hj)]
  · rw [sumL_single _ x len fun j _ hne => ?_]
    · rw [if_pos hx]
      unfold vec
      rw [if_neg (by omega), if_pos rfl, mul_one'' (hr _)]
    · unfold vec
      rw [if_neg (by omega), if_neg (by omega), mul_zero']
theorem unit_dot {k i : Nat} {M : Mat} {D : Nat → Nat} (U : Unit k k M) (hD : VB D) (hi : i < k) : dot k (M i) D = D i := by
  unfold dot
  rw [sumL_single _ i k fun j hj hne => ?_]
  · rw [if_pos hi, U i hi i hi, if_pos rfl, mul_one' (hD i)]
  · rw [U j hj i hi, if_neg fun e => hne e.symm, zero_mul']
/-- what is read off solves; what solves is read off -/
theorem unit_sol {k len x : Nat} {M : Mat} {D : Nat → Nat} (h : MB M) (U : Unit k k M) (hD : VB D) (hx : x < len) : Sol (k + len) M (· < k) (vec k x D) ↔ ∀ i, i < k → D i = M i (k + x) := by
  constructor
  · intro s i hi
    have := s i hi
    rw [dot_vec (h i) hx, unit_dot U hD hi] at this
    exact xor_eq this
  · intro s i hi
    rw [dot_vec (h i) hx, unit_dot U hD hi, s i hi, Nat.xor_self]
/-! ### the columns one after another -/
def runP (M : Mat) : Nat → Mat
  | 0 => M
  | c + 1 => elim c (runP M c)
theorem runP_b {M : Mat} (h : MB M) : ∀ c, MB (runP M c)
  | 0 => h
  | c + 1 => elim_b (runP_b h c)
theorem runP_sol {N : Nat} {M : Mat} {I : Nat → Prop} {v : Nat → Nat} (h : MB M) (hv : VB v) : ∀ c, (∀ b, b < c → runP M b b b ≠ 0 ∧ I b) → (Sol N (runP M c) I v ↔ Sol N M I v)
  | 0, _ => Iff.rfl
  | c + 1, hp => (sol_elim (runP_b h c) hv (hp c (by omega)).1 (hp c (by omega)).2).trans (runP_sol h hv c fun b hb => hp b (by omega))
theorem runP_unit {k : Nat} {M : Mat} (h : MB M) : ∀ c, c ≤ k → (∀ b, b < c → runP M b b b ≠ 0) → Unit k c (runP M c)
  | 0, _, _ => fun j hj => absurd hj (by omega)
  | c + 1, hc, hp => unit_elim (runP_b h c) (hp c (by omega)) (by omega) (runP_unit h c (by omega) fun b hb => hp b (by omega))
def swapM (p c : Nat) (M : Mat) : Mat := fun i => if i = c then M p else if i = p then M c else M i
theorem swap_b {p c : Nat} {M : Mat} (h : MB M) : MB (swapM p c M) := fun i j => by
  unfold swapM
  split
  · exact h _ _
  · split <;> exact h _ _
theorem swap_sol {N k p c : Nat} {M : Mat} {v : Nat → Nat} (hp : p < k) (hc : c < k) : Sol N (swapM p c M) (· < k) v ↔ Sol N M (· < k) v := by
  constructor
  · intro s i hi
    by_cases e : i = p
    · have := s c hc
      unfold swapM at this
      rw [if_pos rfl] at this
      rw [e]; exact this
    · by_cases e2 : i = c
      · have := s p hp
        unfold swapM at this
        by_cases e3 : p = c
        · rw [if_pos e3] at this
          rw [e2, ← e3]; exact this
        · rw [if_neg e3, if_pos rfl] at this
          rw [e2]; exact this
      · have := s i hi
        unfold swapM at this
        rw [if_neg e2, if_neg e] at this
        exact this
  · intro s i hi
    unfold swapM
    split
    · exact s p hp
    · split
      · exact s c hc
      · exact s i hi
theorem swap_unit {k p c : Nat} {M : Mat} (hcp : c ≤ p) (hp : p < k) (hc : c < k) (U : Unit k c M) : Unit k c (swapM p c M) := by
  intro j hj i hi
  unfold swapM
  by_cases e : i = c
  · rw [if_pos e, U j hj p hp, if_neg (by omega), if_neg (by omega)]
  · rw [if_neg e]
    by_cases e2 : i = p
    · rw [if_pos e2, U j hj c hc, if_neg (by omega), if_neg (by omega)]
    · rw [if_neg e2]; exact U j hj i hi
end My
end
section
set_option Elab.async false
set_option linter.all false
set_option maxRecDepth 100000
set_option maxHeartbeats 2000000
namespace My
/-! ### rows that are told by places -/
def matOf (k len : Nat) (pl : Nat → Nat) (sh : Nat → List Nat) : Mat := fun i j => if j < k then (Sy22.rowFor k (pl i)).getD j 0 else (sh (pl i)).getD (j - k) 0
theorem rowFor_at {k s j : Nat} (h : j < k) : (Sy22.rowFor k s).getD j 0 = if s < k then (if s = j then 1 else 0) else Sy22.inv (s ^^^ j) := by
  unfold Sy22.rowFor
  rw [getD_map_range h]
theorem rowFor_len (k s : Nat) : (Sy22.rowFor k s).length = k := by unfold Sy22.rowFor; simp
theorem rowFor_bytes {k s : Nat} (hk : k ≤ 64) (hs : s < 64) : Bytes (Sy22.rowFor k s) := fun y hy => by
  unfold Sy22.rowFor at hy
  obtain ⟨j, hj, rfl⟩ := List.mem_map.mp hy
  have hj := List.mem_range.mp hj
  split
  · split <;> decide
  · exact inv_lt (Nat.lt_of_lt_of_le (Nat.xor_lt_two_pow (n := 6) hs (by omega)) (by decide))
theorem matOf_b {k len : Nat} {pl : Nat → Nat} {sh : Nat → List Nat} (hk : k ≤ 64) (hp : ∀ i, pl i < 64) (hs : ∀ s, Bytes (sh s)) : MB (matOf k len pl sh) := fun i j => by
  unfold matOf
  split
  · exact (rowFor_bytes hk (hp i)).at_ j
  · exact (hs _).at_ _
/-- a row of a place at a vector of its columns -/
theorem dot_low {k len i : Nat} {pl : Nat → Nat} {sh : Nat → List Nat} {v : Nat → Nat} (hv : VB v) (hz : ∀ j, k ≤ j → v j = 0) (hi : pl i < k) : dot (k + len) (matOf k len pl sh i) v = v (pl i) := by
  unfold dot
  rw [sumL_cut (n := k) _ (by omega) fun j h1 _ => by rw [hz j h1, mul_zero'], sumL_single _ (pl i) k fun j hj hne => ?_]
  · rw [if_pos hi]
    unfold matOf
    rw [if_pos hi, rowFor_at hi, if_pos hi, if_pos rfl, mul_one' (hv _)]
  · unfold matOf
    rw [if_pos hj, rowFor_at hj, if_pos hi, if_neg fun e => hne e.symm, zero_mul']
/-- sums over the columns where a vector isn't 0 -/
theorem sumL_filter {f : Nat → Nat} {p : Nat → Bool} : ∀ {l : List Nat}, (∀ j ∈ l, p j = false → f j = 0) → sumL f (l.filter p) = sumL f l
  | [], _ => rfl
  | j :: l, h => by
    have ih := sumL_filter (f := f) (p := p) (l := l) fun x hx => h x (List.mem_cons_of_mem _ hx)
    cases e : p j with
    | true =>
      rw [List.filter_cons_of_pos e]
      show f j ^^^ _ = f j ^^^ _
      rw [ih]
    | false =>
      rw [List.filter_cons_of_neg (by rw [e]; exact Bool.noConfusion)]
      show _ = f j ^^^ _
      rw [ih, h j List.mem_cons_self e, Nat.zero_xor]
theorem dot_high {k len i : Nat} {pl : Nat → Nat} {sh : Nat → List Nat} {v : Nat → Nat} (p : Nat → Bool) (hz : ∀ j, k ≤ j → v j = 0) (hp : ∀ j, j < k → p j = false → v j = 0) (hi : k ≤ pl i) : dot (k + len) (matOf k len pl sh i) v = sumL (fun j => Sy22.mul (Sy22.inv (pl i ^^^ j)) (v j)) ((List.range k).filter p) := by
  unfold dot
  rw [sumL_cut (n := k) _ (by omega) fun j h1 _ => by rw [hz j h1, mul_zero']]
  rw [sumL_filter fun j hj hpj => by rw [hp j (List.mem_range.mp hj) hpj, mul_zero']]
  exact sumL_same fun j hj => by
    have hj := List.mem_range.mp hj
    unfold matOf
    rw [if_pos hj, rowFor_at hj, if_neg (by omega)]
/-- what rows of places that tell enough send to nothing is nothing: js the columns that may be other than 0, xs the places that tell them -/
theorem none_left {k len : Nat} {pl : Nat → Nat} {sh : Nat → List Nat} {v : Nat → Nat} {I : Nat → Prop} (p : Nat → Bool) (xs : List Nat) (hk : k ≤ 64) (hv : VB v) (hz : ∀ j, k ≤ j → v j = 0) (s : Sol (k + len) (matOf k len pl sh) I v)
    (hlow : ∀ j, j < k → p j = false → v j = 0) (hx : ∀ x ∈ xs, k ≤ x ∧ x < 64 ∧ ∃ i, I i ∧ pl i = x) (nx : xs.Nodup) (hl : ((List.range k).filter p).length = xs.length) : ∀ j, j < k → v j = 0 := by
  have hc := cauchy ((List.range k).filter p) xs v hl (List.nodup_range.filter _) nx (fun j hj => by have := List.mem_range.mp (List.mem_filter.mp hj).1; omega) (fun x hx' => by have := (hx x hx').2.1; omega)
    (fun x hx' j hj e => by have := List.mem_range.mp (List.mem_filter.mp hj).1; have := (hx x hx').1; omega) (fun j _ => hv j) (fun x hx' => by
      obtain ⟨h1, _, i, hi, rfl⟩ := hx x hx'
      rw [← dot_high (len := len) (sh := sh) p hz hlow h1]
      exact s i hi)
  intro j hj
  cases e : p j with
  | false => exact hlow j hj e
  | true => exact hc j (List.mem_filter.mpr ⟨List.mem_range.mpr hj, e⟩)
end My
end
section
set_option Elab.async false
set_option linter.all false
set_option maxRecDepth 100000
set_option maxHeartbeats 2000000
namespace My
abbrev RR := List (List Nat × List Nat)
def stepS (k : Nat) (rows : RR) (c : Nat) : RR :=
    match (List.range k).find? fun (i : Nat) => decide (c ≤ i) && (Sy22.at_ (rows.getD i ([], [])).1 c != 0) with
    | none => rows
    | some p =>
      let a := rows.getD c ([], [])
      let b := rows.getD p ([], [])
      let rows := (rows.set p a).set c b
      let f := Sy22.inv (Sy22.at_ b.1 c)
      let b := (b.1.map (Sy22.mul f), b.2.map (Sy22.mul f))
      (List.range k).map fun (i : Nat) => if i = c then b else
        let x := rows.getD i ([], [])
        let g := Sy22.at_ x.1 c
        if g = 0 then x else (Sy22.addRow x.1 b.1 g, Sy22.addRow x.2 b.2 g)
theorem solve_eq (k : Nat) (rows : RR) : Sy22.solve k rows = ((List.range k).foldl (stepS k) rows).map (fun (x : List Nat × List Nat) => x.2) := rfl
def flat (R : RR) (i : Nat) : List Nat := (R.getD i ([], [])).1 ++ (R.getD i ([], [])).2
theorem getD_map0 {f : Nat → Nat} (h : f 0 = 0) (l : List Nat) (j : Nat) : (l.map f).getD j 0 = f (l.getD j 0) := by
  by_cases hj : j < l.length
  · simp [hj]
  · simp [hj, h]
theorem getD_zip0 {f : Nat → Nat → Nat} (h : f 0 0 = 0) {a b : List Nat} (hl : a.length = b.length) (j : Nat) : (List.zipWith f a b).getD j 0 = f (a.getD j 0) (b.getD j 0) := by
  by_cases hj : j < a.length
  · simp [hj, ← hl]
  · simp [hj, ← hl, h]
structure RS (k len c : Nat) (R : RR) (M M0 : Mat) : Prop where
  rl : R.length = k
  lens : ∀ i, i < k → (R.getD i ([], [])).1.length = k ∧ (R.getD i ([], [])).2.length = len
  b : MB M
  unit : Unit k c M
  sol : ∀ v, VB v → (Sol (k + len) M (· < k) v ↔ Sol (k + len) M0 (· < k) v)
  ent : ∀ i, i < k → ∀ j, j < k + len → (flat R i).getD j 0 = M i j
theorem getD_fst {k len : Nat} {a : List Nat × List Nat} {c : Nat} (h : a.1.length = k) (hc : c < k) : (a.1 ++ a.2).getD c 0 = Sy22.at_ a.1 c := by
  rw [getD_app1 (by omega)]; rfl
theorem rs_step {k len c : Nat} {R : RR} {M M0 : Mat} (hc : c < k) (S : RS k len c R M M0) (ker : ∀ v, VB v → (∀ j, k ≤ j → v j = 0) → Sol (k + len) M0 (· < k) v → ∀ j, j < k → v j = 0) : ∃ M', RS k len (c + 1) (stepS k R c) M' M0 := by
  have at1 : ∀ i, i < k → Sy22.at_ (R.getD i ([], [])).1 c = M i c := fun i hi => by
    rw [← S.ent i hi c (by omega), ← getD_fst (k := k) (len := len) (S.lens i hi).1 hc]; rfl
  cases hf : (List.range k).find? fun (i : Nat) => decide (c ≤ i) && (Sy22.at_ (R.getD i ([], [])).1 c != 0) with
  | none =>
    exfalso
    rw [List.find?_eq_none] at hf
    have hs : Sol (k + len) M (· < k) (kv c M) := fun i hi => by
      refine kv_sol S.b S.unit (by omega) hi ?_
      by_cases hic : i < c
      · exact .inl hic
      · refine .inr ?_
        have := hf i (List.mem_range.mpr hi)
        rw [at1 i hi] at this
        simpa [show c ≤ i by omega] using this
    have hz := ker (kv c M) (kv_b S.b) (fun j hj => by unfold kv; rw [if_neg (by omega), if_neg (by omega)]) ((S.sol _ (kv_b S.b)).mp hs) c hc
    unfold kv at hz
    rw [if_neg (by omega), if_pos rfl] at hz
    cases hz
  | some p =>
    have hpm := List.mem_range.mp (List.mem_of_find?_eq_some hf)
    have hpp := List.find?_some hf
    rw [Bool.and_eq_true, decide_eq_true_iff, at1 p hpm, bne_iff_ne] at hpp
    obtain ⟨hcp, hne⟩ := hpp
    have sb : MB (swapM p c M) := swap_b S.b
    have spiv : swapM p c M c c = M p c := by unfold swapM; rw [if_pos rfl]
    have e : stepS k R c = (List.range k).map fun (i : Nat) => if i = c then ((R.getD p ([], [])).1.map (Sy22.mul (Sy22.inv (Sy22.at_ (R.getD p ([], [])).1 c))), (R.getD p ([], [])).2.map (Sy22.mul (Sy22.inv (Sy22.at_ (R.getD p ([], [])).1 c)))) else
        if Sy22.at_ (((R.set p (R.getD c ([], []))).set c (R.getD p ([], []))).getD i ([], [])).1 c = 0 then ((R.set p (R.getD c ([], []))).set c (R.getD p ([], []))).getD i ([], []) else
          (Sy22.addRow (((R.set p (R.getD c ([], []))).set c (R.getD p ([], []))).getD i ([], [])).1 ((R.getD p ([], [])).1.map (Sy22.mul (Sy22.inv (Sy22.at_ (R.getD p ([], [])).1 c)))) (Sy22.at_ (((R.set p (R.getD c ([], []))).set c (R.getD p ([], []))).getD i ([], [])).1 c),
           Sy22.addRow (((R.set p (R.getD c ([], []))).set c (R.getD p ([], []))).getD i ([], [])).2 ((R.getD p ([], [])).2.map (Sy22.mul (Sy22.inv (Sy22.at_ (R.getD p ([], [])).1 c)))) (Sy22.at_ (((R.set p (R.getD c ([], []))).set c (R.getD p ([], []))).getD i ([], [])).1 c)) := by
      unfold stepS
      rw [hf]
    have sw : ∀ i, i < k → i ≠ c → ((R.set p (R.getD c ([], []))).set c (R.getD p ([], []))).getD i ([], []) = if i = p then R.getD c ([], []) else R.getD i ([], []) := fun i hi hic => by
      rw [List.getD_eq_getElem?_getD, List.getElem?_set_ne fun z => hic z.symm]
      by_cases hip : i = p
      · rw [if_pos hip, hip, List.getElem?_set_self (by rw [S.rl]; exact hpm)]; rfl
      · rw [if_neg hip, List.getElem?_set_ne fun z => hip z.symm, ← List.getD_eq_getElem?_getD]
    have gd : ∀ (F : Nat → List Nat × List Nat) (i : Nat), i < k → ((List.range k).map F).getD i ([], []) = F i := fun F i hi => by
      rw [List.getD_eq_getElem?_getD, List.getElem?_map, List.getElem?_range hi]; rfl
    -- the other row
    have xo : ∀ i, i < k → i ≠ c → ∃ q, q < k ∧ ((R.set p (R.getD c ([], []))).set c (R.getD p ([], []))).getD i ([], []) = R.getD q ([], []) ∧ ∀ j, swapM p c M i j = M q j := fun i hi hic => by
      rw [sw i hi hic]
      unfold swapM
      by_cases hip : i = p
      · exact ⟨c, hc, by rw [if_pos hip], fun j => by rw [if_neg hic, if_pos hip]⟩
      · exact ⟨i, hi, by rw [if_neg hip], fun j => by rw [if_neg hic, if_neg hip]⟩
    refine ⟨elim c (swapM p c M), ?_, fun i hi => ?_, elim_b sb, unit_elim sb (by rw [spiv]; exact hne) hc (swap_unit hcp hpm hc S.unit), fun v hv => ?_, fun i hi j hj => ?_⟩
    · rw [e]; simp
    · rw [e, gd _ i hi]
      obtain ⟨l1, l2⟩ := S.lens p hpm
      by_cases hic : i = c
      · rw [if_pos hic]
        exact ⟨by rw [List.length_map, l1], by rw [List.length_map, l2]⟩
      · rw [if_neg hic]
        obtain ⟨q, hq, eq, _⟩ := xo i hi hic
        rw [eq]
        obtain ⟨m1, m2⟩ := S.lens q hq
        split
        · exact ⟨m1, m2⟩
        · unfold Sy22.addRow
          exact ⟨by rw [List.length_zipWith, List.length_map, m1, l1, Nat.min_self], by rw [List.length_zipWith, List.length_map, m2, l2, Nat.min_self]⟩
    · exact ((sol_elim (I := (· < k)) sb hv (by rw [spiv]; exact hne) hc).trans (swap_sol hpm hc)).trans (S.sol v hv)
    · unfold flat
      rw [e, gd _ i hi]
      obtain ⟨l1, l2⟩ := S.lens p hpm
      have bj : ((R.getD p ([], [])).1.map (Sy22.mul (Sy22.inv (M p c))) ++ (R.getD p ([], [])).2.map (Sy22.mul (Sy22.inv (M p c)))).getD j 0 = Sy22.mul (Sy22.inv (M p c)) (M p j) := by
        rw [← List.map_append, getD_map0 (mul_zero' _)]
        exact congrArg _ (S.ent p hpm j hj)
      rw [at1 p hpm]
      unfold elim
      rw [spiv, show swapM p c M c j = M p j by unfold swapM; rw [if_pos rfl]]
      by_cases hic : i = c
      · rw [if_pos hic, if_pos hic]
        exact bj
      · rw [if_neg hic, if_neg hic]
        obtain ⟨q, hq, eq, em⟩ := xo i hi hic
        rw [eq, em, em, at1 q hq]
        obtain ⟨m1, m2⟩ := S.lens q hq
        by_cases hg : M q c = 0
        · rw [if_pos hg, hg, zero_mul', Nat.xor_zero]
          exact S.ent q hq j hj
        · rw [if_neg hg]
          dsimp only
          unfold Sy22.addRow
          rw [← List.zipWith_append (by rw [List.length_map, m1, l1]), getD_zip0 (by rw [mul_zero']; rfl) (by rw [List.length_append, List.length_append, List.length_map, List.length_map, m1, m2, l1, l2]), bj]
          rw [← S.ent q hq j hj]
          rfl
theorem rs_run {k len : Nat} {R : RR} {M0 : Mat} (S : RS k len 0 R M0 M0) (ker : ∀ v, VB v → (∀ j, k ≤ j → v j = 0) → Sol (k + len) M0 (· < k) v → ∀ j, j < k → v j = 0) : ∀ c, c ≤ k → ∃ M', RS k len c ((List.range c).foldl (stepS k) R) M' M0
  | 0, _ => ⟨M0, S⟩
  | c + 1, hc => by
    obtain ⟨M', S'⟩ := rs_run S ker c (by omega)
    rw [List.range_succ, List.foldl_append]
    exact rs_step (by omega) S' ker
end My
end
section
set_option Elab.async false
set_option linter.all false
set_option maxRecDepth 100000
set_option maxHeartbeats 2000000
namespace My
/-! ### the places that are there -/
def presA (k t : Nat) : List Nat := (List.range k).filter fun i => t.testBit i
def presB (k m t : Nat) : List Nat := ((List.range m).map (k + ·)).filter fun i => t.testBit i
def spareX (k m t : Nat) : List Nat := (presB k m t).take (k - (presA k t).length)
def miss (t n : Nat) : List Nat := (List.range n).filter fun i => !t.testBit i
theorem places_split (k m t : Nat) : Sy22.places (k + m) t = presA k t ++ presB k m t := by
  unfold Sy22.places presA presB
  rw [List.range_add, List.filter_append]
theorem presA_le (k t : Nat) : (presA k t).length ≤ k := by
  have := List.length_filter_le (fun i => t.testBit i) (List.range k)
  unfold presA
  simpa using this
theorem ps_eq (k m t : Nat) : (Sy22.places (k + m) t).take k = presA k t ++ spareX k m t := by
  rw [places_split, List.take_append, List.take_of_length_le (presA_le k t)]
  rfl
theorem len_two (p : Nat → Bool) : ∀ l : List Nat, (l.filter p).length + (l.filter fun i => !p i).length = l.length
  | [] => rfl
  | a :: l => by
    have := len_two p l
    cases e : p a <;> simp [List.filter_cons, e] <;> omega
theorem miss_len (k t : Nat) : (presA k t).length + (miss t k).length = k := by
  have := len_two (fun i => t.testBit i) (List.range k)
  rw [List.length_range] at this
  exact this
theorem spare_len {k m t : Nat} (h : k ≤ (Sy22.places (k + m) t).length) : (spareX k m t).length = (miss t k).length := by
  have h1 := miss_len k t
  rw [places_split, List.length_append] at h
  unfold spareX
  rw [List.length_take]
  omega
theorem spare_mem {k m t x : Nat} (h : x ∈ spareX k m t) : k ≤ x ∧ x < k + m := by
  have h := List.mem_of_mem_take h
  unfold presB at h
  obtain ⟨i, hi, rfl⟩ := List.mem_map.mp (List.mem_filter.mp h).1
  have := List.mem_range.mp hi
  omega
theorem nodup_shift (k m : Nat) : ((List.range m).map (k + ·)).Nodup := by
  induction m with
  | zero => simp
  | succ m ih =>
    rw [List.range_succ, List.map_append, List.nodup_append]
    refine ⟨ih, by simp, fun a ha b hb e => ?_⟩
    obtain ⟨i, hi, rfl⟩ := List.mem_map.mp ha
    have := List.mem_range.mp hi
    simp at hb
    omega
theorem spare_nd (k m t : Nat) : (spareX k m t).Nodup := ((nodup_shift k m).filter _).sublist (List.take_sublist _ _)
theorem miss_succ (t n : Nat) : miss t (n + 1) = miss t n ++ if t.testBit n = true then [] else [n] := by
  unfold miss
  rw [List.range_succ, List.filter_append]
  congr 1
  cases e : t.testBit n <;> simp [List.filter_cons, e]
theorem miss_at (t : Nat) : ∀ n i, i < (miss t n).length → ∃ j, j < n ∧ t.testBit j = false ∧ (miss t j).length = i
  | 0, i, h => by simp [miss] at h
  | n + 1, i, h => by
    by_cases hi : i < (miss t n).length
    · obtain ⟨j, h1, h2, h3⟩ := miss_at t n i hi
      exact ⟨j, by omega, h2, h3⟩
    · rw [miss_succ, List.length_append] at h
      cases e : t.testBit n with
      | true => rw [if_pos e] at h; simp at h; omega
      | false => rw [if_neg (by rw [e]; exact Bool.noConfusion)] at h; simp at h; exact ⟨n, by omega, e, by omega⟩
theorem miss_mono {t a b : Nat} (h : a ≤ b) : (miss t a).length ≤ (miss t b).length := by
  induction b with
  | zero => rw [Nat.le_zero.mp h]; exact Nat.le_refl _
  | succ b ih =>
    by_cases e : a = b + 1
    · rw [e]; exact Nat.le_refl _
    · have := ih (by omega)
      rw [miss_succ, List.length_append]
      omega
/-- the place of the j-th row, as the program orders them; as the specification does -/
def plP (k m t j : Nat) : Nat := if t.testBit j = true ∧ j < k then j else (spareX k m t).getD (miss t j).length 0
def plS (k m t i : Nat) : Nat := ((Sy22.places (k + m) t).take k).getD i 0
theorem getD_mem {l : List Nat} {i : Nat} (h : i < l.length) : l.getD i 0 ∈ l := by
  rw [show l.getD i 0 = l[i] by simp [h]]; exact List.getElem_mem h
theorem plP_lt {k m t : Nat} (hkm : k + m ≤ 32) (j : Nat) : plP k m t j < 64 := by
  unfold plP
  split
  · omega
  · by_cases h : (miss t j).length < (spareX k m t).length
    · have := spare_mem (getD_mem h); omega
    · rw [show (spareX k m t).getD (miss t j).length 0 = 0 by simp [h]]; decide
theorem plS_spare {k m t u : Nat} (h : u < (spareX k m t).length) : plS k m t ((presA k t).length + u) = (spareX k m t).getD u 0 := by
  unfold plS
  rw [ps_eq, getD_app2 (by omega), Nat.add_sub_cancel_left]
theorem plS_low {k m t j : Nat} (hj : j < k) (h : t.testBit j = true) : ∃ i, i < (presA k t).length ∧ plS k m t i = j := by
  have hm : j ∈ presA k t := List.mem_filter.mpr ⟨List.mem_range.mpr hj, h⟩
  obtain ⟨i, hi, e⟩ := List.mem_iff_getElem.mp hm
  refine ⟨i, hi, ?_⟩
  unfold plS
  rw [ps_eq, getD_app1 hi]
  simp [hi, e]
theorem plS_lt {k m t : Nat} (hkm : k + m ≤ 32) (i : Nat) : plS k m t i < 64 := by
  unfold plS
  by_cases h : i < ((Sy22.places (k + m) t).take k).length
  · have hm := List.mem_of_mem_take (getD_mem h)
    have := List.mem_range.mp (List.mem_filter.mp hm).1
    omega
  · rw [show ((Sy22.places (k + m) t).take k).getD i 0 = 0 by rw [List.getD_eq_getElem?_getD, List.getElem?_eq_none (by omega)]; rfl]; decide
section
variable {k m t len : Nat} {sh : Nat → List Nat} (hkm : k + m ≤ 32) (hs : ∀ s, Bytes (sh s)) (hpl : k ≤ (Sy22.places (k + m) t).length)
include hkm hs hpl
theorem kerS : ∀ v, VB v → (∀ j, k ≤ j → v j = 0) → Sol (k + len) (matOf k len (plS k m t) sh) (· < k) v → ∀ j, j < k → v j = 0 := by
  intro v hv hz s
  have ml := miss_len k t
  have sl := spare_len hpl
  refine none_left (fun j => !t.testBit j) (spareX k m t) (by omega) hv hz s (fun j hj hp => ?_) (fun x hx => ?_) (spare_nd k m t) sl.symm
  · have hp : t.testBit j = true := by simpa using hp
    obtain ⟨i, hi, e⟩ := plS_low (m := m) hj hp
    have := s i (by show i < k; omega)
    rw [dot_low hv hz (by rw [e]; exact hj), e] at this
    exact this
  · have hm := spare_mem hx
    obtain ⟨u, hu, e⟩ := List.mem_iff_getElem.mp hx
    refine ⟨hm.1, by omega, (presA k t).length + u, by show _ < k; omega, ?_⟩
    rw [plS_spare hu]
    simp [hu, e]
theorem filter_upto (c : Nat) (hc : c < k) : ((List.range k).filter fun j => decide (j ≤ c) && !t.testBit j) = miss t (c + 1) := by
  obtain ⟨d, rfl⟩ : ∃ d, k = c + 1 + d := ⟨k - (c + 1), by omega⟩
  unfold miss
  rw [List.range_add, List.filter_append]
  have e1 : ((List.range (c + 1)).filter fun j => decide (j ≤ c) && !t.testBit j) = (List.range (c + 1)).filter fun i => !t.testBit i := List.filter_congr fun j hj => by
    have := List.mem_range.mp hj
    simp [show j ≤ c by omega]
  have e2 : (((List.range d).map (c + 1 + ·)).filter fun j => decide (j ≤ c) && !t.testBit j) = [] := by
    rw [List.filter_eq_nil_iff]
    intro a ha
    obtain ⟨i, _, rfl⟩ := List.mem_map.mp ha
    simp
    omega
  rw [e1, e2, List.append_nil]
theorem pivP (hb : MB (matOf k len (plP k m t) sh)) : ∀ c, c < k → runP (matOf k len (plP k m t) sh) c c c ≠ 0 := by
  intro c
  induction c using Nat.strongRecOn with
  | ind c ih =>
    intro hc h0
    have sl := spare_len hpl
    have U := runP_unit (k := k) hb c (by omega) fun b hb' => ih b hb' (by omega)
    have Mb := runP_b hb c
    have s1 : Sol (k + len) (runP (matOf k len (plP k m t) sh) c) (· ≤ c) (kv c (runP (matOf k len (plP k m t) sh) c)) := fun i hi => by
      have hi : i ≤ c := hi
      refine kv_sol Mb U (by omega) (by omega) ?_
      by_cases e : i = c
      · exact .inr (by rw [e]; exact h0)
      · exact .inl (by omega)
    have s2 := (runP_sol hb (kv_b Mb) c fun b hb' => ⟨ih b hb' (by omega), by show b ≤ c; omega⟩).mp s1
    generalize hv : kv c (runP (matOf k len (plP k m t) sh) c) = v at *
    have vb : VB v := hv ▸ kv_b Mb
    have vz : ∀ j, c < j → v j = 0 := fun j hj => by rw [← hv]; unfold kv; rw [if_neg (by omega), if_neg (by omega)]
    have vc : v c = 1 := by rw [← hv]; unfold kv; rw [if_neg (by omega), if_pos rfl]
    have mm := miss_mono (t := t) (show c + 1 ≤ k by omega)
    have := none_left (I := (· ≤ c)) (fun j => decide (j ≤ c) && !t.testBit j) ((spareX k m t).take (miss t (c + 1)).length) (by omega) vb (fun j hj => vz j (by omega)) s2 (fun j hj hp => ?_) (fun x hx => ?_) ((spare_nd k m t).sublist (List.take_sublist _ _)) (by rw [filter_upto hkm hs hpl c hc, List.length_take]; omega) c hc
    · rw [vc] at this; cases this
    · by_cases hjc : j ≤ c
      · have hp : t.testBit j = true := by simpa [hjc] using hp
        have h1 := s2 j hjc
        have e : plP k m t j = j := by unfold plP; rw [if_pos ⟨hp, hj⟩]
        rw [dot_low vb (fun j hj => vz j (by omega)) (by rw [e]; exact hj), e] at h1
        exact h1
      · exact vz j (by omega)
    · have hm := spare_mem (List.mem_of_mem_take hx)
      obtain ⟨u, hu, e⟩ := List.mem_iff_getElem.mp hx
      rw [List.length_take] at hu
      obtain ⟨j, hj, hb', hjl⟩ := miss_at t (c + 1) u (by omega)
      refine ⟨hm.1, by omega, j, by show j ≤ c; omega, ?_⟩
      unfold plP
      rw [if_neg (fun z => by rw [hb'] at z; cases z.1), hjl]
      rw [List.getElem_take] at e
      simp [show u < (spareX k m t).length by omega, e]
theorem to_spec {v : Nat → Nat} (s : Sol (k + len) (matOf k len (plP k m t) sh) (· < k) v) : Sol (k + len) (matOf k len (plS k m t) sh) (· < k) v := by
  intro i hi
  have hi : i < k := hi
  have ml := miss_len k t
  have sl := spare_len hpl
  have : ∃ j, j < k ∧ plP k m t j = plS k m t i := by
    by_cases hA : i < (presA k t).length
    · have e : plS k m t i = (presA k t).getD i 0 := by unfold plS; rw [ps_eq, getD_app1 hA]
      have hm : (presA k t).getD i 0 ∈ List.range k ∧ t.testBit ((presA k t).getD i 0) = true := List.mem_filter.mp (getD_mem hA)
      refine ⟨(presA k t).getD i 0, List.mem_range.mp hm.1, ?_⟩
      rw [e]
      unfold plP
      rw [if_pos ⟨hm.2, List.mem_range.mp hm.1⟩]
    · obtain ⟨j, h1, h2, h3⟩ := miss_at t k (i - (presA k t).length) (by omega)
      refine ⟨j, h1, ?_⟩
      have e := plS_spare (k := k) (m := m) (t := t) (u := i - (presA k t).length) (by omega)
      rw [show (presA k t).length + (i - (presA k t).length) = i by omega] at e
      rw [e]
      unfold plP
      rw [if_neg (fun z => by rw [h2] at z; cases z.1), h3]
  obtain ⟨j, hj, e⟩ := this
  have := s j hj
  unfold matOf at this ⊢
  rw [e] at this
  exact this
/-- **what the specification works out is what the program's columns come to** -/
theorem solve_is (hb : MB (matOf k len (plP k m t) sh)) (hl : ∀ s, s < k + m → (sh s).length = len) :
    Sy22.solve k (((Sy22.places (k + m) t).take k).map fun (s : Nat) => (Sy22.rowFor k s, sh s)) = (List.range k).map fun i => (List.range len).map fun x => runP (matOf k len (plP k m t) sh) k i (k + x) := by
  have psl : ((Sy22.places (k + m) t).take k).length = k := by rw [List.length_take]; omega
  have sb : MB (matOf k len (plS k m t) sh) := matOf_b (by omega) (plS_lt hkm) hs
  have at_ : ∀ i, i < k → (((Sy22.places (k + m) t).take k).map fun (s : Nat) => (Sy22.rowFor k s, sh s)).getD i ([], []) = (Sy22.rowFor k (plS k m t i), sh (plS k m t i)) := fun i hi => by
    unfold plS
    generalize (Sy22.places (k + m) t).take k = ps at psl ⊢
    rw [List.getD_eq_getElem?_getD, List.getElem?_map, List.getElem?_eq_getElem (by omega), show ps.getD i 0 = ps[i]'(by omega) by simp [show i < ps.length by omega]]
    rfl
  have lt_ : ∀ i, i < k → plS k m t i < k + m := fun i hi => by
    have hm := List.mem_of_mem_take (getD_mem (l := (Sy22.places (k + m) t).take k) (i := i) (by omega))
    exact List.mem_range.mp (List.mem_filter.mp hm).1
  have S : RS k len 0 (((Sy22.places (k + m) t).take k).map fun (s : Nat) => (Sy22.rowFor k s, sh s)) (matOf k len (plS k m t) sh) (matOf k len (plS k m t) sh) := by
    refine ⟨by rw [List.length_map, psl], fun i hi => ?_, sb, fun j hj => absurd hj (by omega), fun v _ => Iff.rfl, fun i hi j hj => ?_⟩
    · rw [at_ i hi]
      exact ⟨rowFor_len _ _, hl _ (lt_ i hi)⟩
    · unfold flat
      rw [at_ i hi]
      unfold matOf
      by_cases hjk : j < k
      · rw [if_pos hjk]
        exact getD_app1 (by rw [rowFor_len]; exact hjk)
      · rw [if_neg hjk]
        show (Sy22.rowFor k (plS k m t i) ++ sh (plS k m t i)).getD j 0 = _
        rw [getD_app2 (by rw [rowFor_len]; omega), rowFor_len]
  obtain ⟨M, R⟩ := rs_run S (kerS hkm hs hpl) k (Nat.le_refl k)
  rw [solve_eq]
  generalize hR : (List.range k).foldl (stepS k) (((Sy22.places (k + m) t).take k).map fun (s : Nat) => (Sy22.rowFor k s, sh s)) = L at *
  have pv := pivP hkm hs hpl hb
  have Ub := runP_unit (k := k) hb k (Nat.le_refl k) pv
  have Mb := runP_b hb k
  -- each byte
  have key : ∀ i, i < k → ∀ x, x < len → M i (k + x) = runP (matOf k len (plP k m t) sh) k i (k + x) := fun i hi x hx => by
    have D : VB fun i => runP (matOf k len (plP k m t) sh) k i (k + x) := fun i => Mb i _
    have s1 := (unit_sol (k := k) Mb Ub D hx).mpr fun i _ => rfl
    have s2 := (runP_sol hb (vec_b D) k fun b hb' => ⟨pv b hb', hb'⟩).mp s1
    have s3 := (R.sol _ (vec_b D)).mpr (to_spec hkm hs hpl s2)
    exact ((unit_sol R.b R.unit D hx).mp s3 i hi).symm
  refine List.ext_getElem (by simp [R.rl]) fun i h1 h2 => ?_
  have hi : i < k := by simpa using h2
  rw [List.getElem_map, List.getElem_map, List.getElem_range]
  have hgi : L.getD i ([], []) = L[i]'(by rw [R.rl]; exact hi) := by simp [show i < L.length by rw [R.rl]; exact hi]
  obtain ⟨l1, l2⟩ := R.lens i hi
  rw [hgi] at l1 l2
  refine List.ext_getElem (by simp [l2]) fun x h3 h4 => ?_
  have hx : x < len := by simpa using h4
  rw [List.getElem_map, List.getElem_range, ← key i hi x hx, ← R.ent i hi (k + x) (by omega)]
  unfold flat
  rw [hgi, getD_app2 (by omega), l1, Nat.add_sub_cancel_left]
  simp [show x < (L[i]'(by rw [R.rl]; exact hi)).2.length by omega]
end
end My
end
section
set_option Elab.async false
set_option linter.all false
set_option maxRecDepth 100000
set_option maxHeartbeats 2000000
namespace My
open PySem PySem.Spec PyProof.Rows L2

/-! ### lists of natural numbers as values -/
def nv (xs : List Nat) : List V := xs.map fun (n : Nat) => V.int (n : Int)
theorem nv_len (xs : List Nat) : (nv xs).length = xs.length := by simp [nv]
theorem nv_nil : nv [] = [] := rfl
theorem nv_cons (x : Nat) (xs : List Nat) : nv (x :: xs) = V.int (x : Int) :: nv xs := rfl
theorem nv_app (xs ys : List Nat) : nv (xs ++ ys) = nv xs ++ nv ys := by simp [nv]
theorem nv_snoc (xs : List Nat) (y : Nat) : nv xs ++ [V.int (y : Int)] = nv (xs ++ [y]) := by simp [nv]
theorem nv_take (xs : List Nat) (n : Nat) : (nv xs).take n = nv (xs.take n) := by simp [nv, List.map_take]
theorem nv_drop (xs : List Nat) (n : Nat) : (nv xs).drop n = nv (xs.drop n) := by simp [nv, List.map_drop]
theorem nv_set (xs : List Nat) (i y : Nat) : (nv xs).set i (V.int (y : Int)) = nv (xs.set i y) := by simp [nv, List.map_set]
theorem nv_get {xs : List Nat} {i : Nat} (h : i < xs.length) : (nv xs)[i]? = some (V.int ((xs.getD i 0 : Nat) : Int)) := by
  simp [nv, h]
theorem nv_at {xs : List Nat} {z : Int} (h0 : 0 ≤ z) (h : z < (xs.length : Int)) : atI (nv xs) z = some (V.int ((xs.getD z.toNat 0 : Nat) : Int)) :=
  at_of (j := z.toNat) (by omega) (nv_get (by omega))
theorem nv_of_get {xs : List Nat} {i : Nat} {x : V} (h : (nv xs)[i]? = some x) : i < xs.length ∧ x = V.int ((xs.getD i 0 : Nat) : Int) := by
  have hl : i < xs.length := by
    have := (List.getElem?_eq_some_iff.mp h).1
    rwa [nv_len] at this
  rw [nv_get hl] at h
  exact ⟨hl, (Option.some.inj h).symm⟩
theorem nv_cut (xs : List Nat) (lo hi : Option Int) : cutV (nv xs) lo hi = nv ((xs.drop (HT.sIx xs.length 0 lo)).take (HT.sIx xs.length xs.length hi - HT.sIx xs.length 0 lo)) := by
  unfold cutV
  rw [nv_len, nv_drop, nv_take]
theorem nv_inj : ∀ {xs ys : List Nat}, nv xs = nv ys → xs = ys
  | [], [], _ => rfl
  | [], _ :: _, h => by cases h
  | _ :: _, [], h => by cases h
  | x :: xs, y :: ys, h => by
    injection h with h1 h2
    injection h1 with h1
    rw [Int.ofNat.inj h1, nv_inj h2]
/-- the items of xs[a:b] for places in it -/
def cut (xs : List Nat) (a b : Nat) : List Nat := (xs.drop a).take (b - a)
theorem nv_cut2 {xs : List Nat} {a b : Int} (ha : 0 ≤ a) (hb : 0 ≤ b) (h : b ≤ xs.length) : cutV (nv xs) (some a) (some b) = nv (cut xs a.toNat b.toNat) := by
  rw [nv_cut]
  have e1 : HT.sIx xs.length 0 (some a) = min a.toNat xs.length := by
    show (if a < 0 then _ else _) = _
    rw [if_neg (by omega)]
  have e2 : HT.sIx xs.length xs.length (some b) = b.toNat := by
    show (if b < 0 then _ else _) = _
    rw [if_neg (by omega)]
    omega
  rw [e1, e2]
  unfold cut
  by_cases h2 : a.toNat ≤ xs.length
  · rw [Nat.min_eq_left h2]
  · rw [Nat.min_eq_right (by omega), List.drop_eq_nil_of_le (Nat.le_refl _), List.drop_eq_nil_of_le (by omega)]
    simp
theorem nv_cutFrom {xs : List Nat} {a : Int} (ha : 0 ≤ a) (h : a ≤ xs.length) : cutV (nv xs) (some a) none = nv (xs.drop a.toNat) := by
  rw [nv_cut]
  have e1 : HT.sIx xs.length 0 (some a) = a.toNat := by
    show (if a < 0 then _ else _) = _
    rw [if_neg (by omega)]
    omega
  rw [e1, HT.sIx_none, List.take_of_length_le (by simp)]
theorem nv_cutTo {xs : List Nat} {b : Int} (hb : 0 ≤ b) (h : b ≤ xs.length) : cutV (nv xs) none (some b) = nv (xs.take b.toNat) := by
  rw [nv_cut]
  have e2 : HT.sIx xs.length xs.length (some b) = b.toNat := by
    show (if b < 0 then _ else _) = _
    rw [if_neg (by omega)]
    omega
  rw [e2, HT.sIx_none]
  simp

/-! ### lists of whole numbers -/
def iv (zs : List Int) : List V := zs.map fun (z : Int) => V.int z
theorem iv_len (zs : List Int) : (iv zs).length = zs.length := by simp [iv]
theorem iv_snoc (zs : List Int) (z : Int) : iv zs ++ [V.int z] = iv (zs ++ [z]) := by simp [iv]
theorem iv_app (zs ys : List Int) : iv zs ++ iv ys = iv (zs ++ ys) := by simp [iv]
theorem nv_iv (xs : List Nat) : nv xs = iv (xs.map fun (n : Nat) => (n : Int)) := by simp [iv, nv]
/-! ### the def's own objects over the heap at its entry -/
structure Loc (H0 H : Hp) (ls : List (Addr × HO)) : Prop where
  same : Same H0 H
  nd : (ls.map (·.1)).Nodup
  at_ : ∀ p ∈ ls, H0 p.1 = none ∧ H p.1 = some p.2
section
variable {H0 H H' : Hp} {ls ms : List (Addr × HO)} {p : Addr} {o o' : HO}
theorem Loc.start (H : Hp) : Loc H H [] := ⟨Same.refl H, List.nodup_nil, fun _ h => by cases h⟩
theorem Loc.get (L : Loc H0 H ls) (j : Nat) (h : ls[j]? = some (p, o)) : H p = some o := (L.at_ _ (List.mem_of_getElem? h)).2
theorem Loc.fresh (L : Loc H0 H ls) (j : Nat) (h : ls[j]? = some (p, o)) : H0 p = none := (L.at_ _ (List.mem_of_getElem? h)).1
theorem Loc.calls (L : Loc H0 H ls) (M : Loc H H' ms) : Loc H0 H' (ls ++ ms) := by
  refine ⟨L.same.trans M.same, ?_, fun q hq => ?_⟩
  · rw [List.map_append, List.nodup_append]
    refine ⟨L.nd, M.nd, fun a ha b hb e => ?_⟩
    subst e
    obtain ⟨x, hx, rfl⟩ := List.mem_map.mp ha
    obtain ⟨y, hy, e⟩ := List.mem_map.mp hb
    have h1 := (L.at_ x hx).2
    have h2 := (M.at_ y hy).1
    rw [e, h1] at h2
    cases h2
  · rcases List.mem_append.mp hq with h | h
    · exact ⟨(L.at_ q h).1, M.same _ _ (L.at_ q h).2⟩
    · exact ⟨L.same.free (M.at_ q h).1, (M.at_ q h).2⟩
theorem Loc.one (hp : H p = none) : Loc H (upd H p o) [(p, o)] := by
  refine ⟨fun b u e => ?_, by simp, fun q hq => ?_⟩
  · rw [upd_ne (ne_of_none e hp)]
    exact e
  · rw [List.mem_singleton] at hq
    subst hq
    exact ⟨hp, upd_same⟩
theorem Loc.new (L : Loc H0 H ls) (hp : H p = none) : Loc H0 (upd H p o) (ls ++ [(p, o)]) := L.calls (Loc.one hp)
theorem Loc.put (L : Loc H0 H ls) (j : Nat) (h : ls[j]? = some (p, o)) : Loc H0 (upd H p o') (ls.set j (p, o')) := by
  have hj : j < ls.length := (List.getElem?_eq_some_iff.mp h).1
  have hm : (ls.set j (p, o')).map (·.1) = ls.map (·.1) := by
    rw [List.map_set]
    refine List.ext_getElem? fun i => ?_
    by_cases e : j = i
    · subst e
      rw [List.getElem?_set_self (by simpa using hj), List.getElem?_map, h]
      rfl
    · rw [List.getElem?_set_ne e]
  refine ⟨fun b u e => ?_, ?_, fun q hq => ?_⟩
  · rw [upd_ne (ne_of_none e (L.fresh j h))]
    exact L.same b u e
  · rw [hm]; exact L.nd
  · obtain ⟨i, hi⟩ := List.getElem?_of_mem hq
    by_cases e : j = i
    · subst e
      rw [List.getElem?_set_self hj] at hi
      cases hi
      exact ⟨L.fresh j h, upd_same⟩
    · rw [List.getElem?_set_ne e] at hi
      have ne : q.1 ≠ p := fun z => e (nd_ix L.nd (by rw [List.getElem?_map, h]; rfl) (by rw [List.getElem?_map, hi]; simp [z]))
      exact ⟨(L.at_ q (List.mem_of_getElem? hi)).1, by rw [upd_ne ne]; exact (L.at_ q (List.mem_of_getElem? hi)).2⟩
theorem Loc.sub (L : Loc H0 H ls) (h : ms.Sublist ls) : Loc H0 H ms :=
  ⟨L.same, (h.map _).nodup L.nd, fun q hq => L.at_ q (h.mem hq)⟩
theorem Loc.pick (L : Loc H0 H ls) (j : Nat) (h : ls[j]? = some (p, o)) : Loc H0 H [(p, o)] := L.sub (List.singleton_sublist.mpr (List.mem_of_getElem? h))
theorem Loc.take (L : Loc H0 H ls) (n : Nat) : Loc H0 H (ls.take n) := L.sub (List.take_sublist n ls)
theorem Loc.lst {K : PySem.W.Frag} {xs : List V} (L : Loc H0 H ls) (j : Nat) (h : ls[j]? = some (p, .lst xs)) : SqL K H p xs := SqL.of (L.get j h)
theorem Loc.arg {K : PySem.W.Frag} {xs : List V} (L : Loc H0 H ls) (h : SqL K H0 p xs) : SqL K H p xs := L.same.seq h
end

/-! ### readings -/
def NewL (xs : List V) (H : Hp) (Q : VK) : Prop := xs.length ≤ sizeLine ∧ ∀ p, H p = none → Q (.ref p) (upd H p (.lst xs))
def RLen (K : PySem.W.Frag) : List V → Hp → VK → Prop := fun xs H Q => ∃ p ys, xs = [.ref p] ∧ (SqL K H p ys ∨ SqT K H p ys) ∧ Q (.int ys.length) H
def RList (K : PySem.W.Frag) : List V → Hp → VK → Prop := fun xs H Q => ∃ p ys, xs = [.ref p] ∧ (SqL K H p ys ∨ SqT K H p ys) ∧ ∀ l, H l = none → Q (.ref l) (upd H l (.lst ys))
theorem c_len {X : Cx} : CallR X (.builtin "len") (RLen X.K) := call_len_seq
theorem c_list {X : Cx} : CallR X (.type "list") (RList X.K) := call_list_of
theorem b_list : bootBuiltins "list" = some (.type "list") := by decide +kernel
theorem b_len : bootBuiltins "len" = some (.builtin "len") := by decide +kernel
theorem c_lenK {X : Cx} {K : PySem.W.Frag} (h : X.K = K) : CallR X (.builtin "len") (RLen K) := h ▸ c_len
theorem c_listK {X : Cx} {K : PySem.W.Frag} (h : X.K = K) : CallR X (.type "list") (RList K) := h ▸ c_list
theorem ix_tupK {X : Cx} {K : PySem.W.Frag} (h : X.K = K) : IxR X (rIxT K) := h ▸ ix_tup
theorem ix_listK {X : Cx} {K : PySem.W.Frag} (h : X.K = K) : IxR X (rIxL K) := h ▸ ix_list
theorem sl_listK {X : Cx} {K : PySem.W.Frag} (h : X.K = K) : SlR X (rSlL K) := h ▸ sl_list
theorem op_inK {X : Cx} {K : PySem.W.Frag} (h : X.K = K) : OpR X (compareOp .In) (rIn K false) := h ▸ op_in_seq
theorem op_notInK {X : Cx} {K : PySem.W.Frag} (h : X.K = K) : OpR X (compareOp .NotIn) (rIn K true) := h ▸ op_notIn_seq
section
variable {σ : L2.St} {H H0 : Hp} {Q : VK} {v : V} {i : Nat} {r : R2} {ta tb : TE} {K : PySem.W.Frag} {ls : List (Addr × HO)} {p : Addr} {D : Ends}
theorem r_var (h : σ[i]? = some (some v)) (q : Q v H) : tVar i σ H Q := ⟨v, h, q⟩
theorem r_c0 (q : Q (.int ((0 : Nat) : Int)) H) : tC (.int 0) σ H Q := q
theorem r_cN {n : Nat} (q : Q (.int ((OfNat.ofNat n : Nat) : Int)) H) : tC (.int (OfNat.ofNat n : Int)) σ H Q := q
theorem r_c (q : Q v H) : tC v σ H Q := q
theorem r_op (q : ta σ H fun x H1 => tb σ H1 fun y H2 => r x y H2 Q) : tOp r ta tb σ H Q := q
theorem r_un {u : V → Hp → VK → Prop} (q : ta σ H fun x H1 => u x H1 Q) : tUn u ta σ H Q := q
theorem r_i1 {g : Int → V} {z : Int} (q : Q (g z) H) : rU g (.int z) H Q := ⟨z, rfl, q⟩
theorem r_i2 {g : Int → Int → V} {x y : Int} (q : Q (g x y) H) : rI0 g (.int x) (.int y) H Q := ⟨x, y, rfl, rfl, q⟩
theorem r_i2c {C : Int → Int → Prop} {g : Int → Int → V} {x y : Int} (c : C x y) (q : Q (g x y) H) : rI C g (.int x) (.int y) H Q := ⟨x, y, rfl, rfl, c, q⟩
theorem r_xor {a b : Nat} (q : Q (.int ((a ^^^ b : Nat) : Int)) H) : rI0 (fun i j => .int (Builtin.bitXor i j)) (.int (a : Int)) (.int (b : Int)) H Q := by
  refine r_i2 ?_
  rw [Bits.bitXor_pp (Int.natCast_nonneg a) (Int.natCast_nonneg b), Int.toNat_natCast, Int.toNat_natCast]
  exact q
theorem r_addN {a b : Nat} (q : Q (.int ((a + b : Nat) : Int)) H) : rI0 (fun i j => .int (i + j)) (.int (a : Int)) (.int (b : Int)) H Q := by
  refine r_i2 ?_
  rw [← Int.natCast_add]
  exact q
theorem r_fdivN {a b : Nat} (h1 : 0 < b) (h2 : b < 1073741824) (q : Q (.int ((a / b : Nat) : Int)) H) : rI CDiv (fun i j => .int (i / j)) (.int (a : Int)) (.int (b : Int)) H Q := by
  refine r_i2c ⟨by omega, by omega⟩ ?_
  rw [← Int.natCast_ediv]
  exact q
theorem r_modN {a b : Nat} (h1 : 0 < b) (q : Q (.int ((a % b : Nat) : Int)) H) : rI (fun _ j => 0 < j) (fun i j => .int (i % j)) (.int (a : Int)) (.int (b : Int)) H Q := by
  refine r_i2c (by omega) ?_
  rw [← Int.natCast_emod]
  exact q
theorem r_mulN {a b : Nat} (h1 : a < 2 ^ 64) (q : Q (.int ((a * b : Nat) : Int)) H) : rI CMul (fun i j => .int (i * j)) (.int (a : Int)) (.int (b : Int)) H Q := by
  refine r_i2c (.inl ⟨by omega, by omega⟩) ?_
  rw [← Int.natCast_mul]
  exact q
theorem r_shlN {a b : Nat} (h1 : a < 2 ^ 64) (h2 : b ≤ 1000000) (q : Q (.int ((a * 2 ^ b : Nat) : Int)) H) : rI CPow (fun i j => .int (i * 2 ^ j.toNat)) (.int (a : Int)) (.int (b : Int)) H Q := by
  refine r_i2c ⟨by omega, by omega, by rw [Int.natAbs_natCast]; exact h1⟩ ?_
  rw [Int.toNat_natCast, Bits.natCast_mul_pow]
  exact q
theorem r_lt {a b : Nat} (q : Q (.bl (decide (a < b))) H) : rI0 (fun i j => .bl (decide (i < j))) (.int (a : Int)) (.int (b : Int)) H Q := by
  refine r_i2 ?_
  rw [show (decide ((a : Int) < (b : Int))) = decide (a < b) by simp]
  exact q
theorem r_eqN {a b : Nat} (q : Q (.bl (decide (a = b))) H) : rEq (.int (a : Int)) (.int (b : Int)) H Q := by
  refine ⟨rfl, ?_⟩
  rw [show decide (V.int (a : Int) = V.int (b : Int)) = decide (a = b) by simp [Int.ofNat_inj]]
  exact q
theorem r_neN {a b : Nat} (q : Q (.bl (!decide (a = b))) H) : rNe (.int (a : Int)) (.int (b : Int)) H Q := by
  refine ⟨rfl, ?_⟩
  rw [show decide (V.int (a : Int) = V.int (b : Int)) = decide (a = b) by simp [Int.ofNat_inj]]
  exact q
theorem r_test {t : TE} {R : Bool → Hp → Prop} (q : t σ H fun x H' => ∃ k, x = .bl k ∧ R k H') : tTest t σ H R := q
theorem r_bl {R : Bool → Prop} {k : Bool} (q : R k) : ∃ k', V.bl k = .bl k' ∧ R k' := ⟨k, rfl, q⟩
theorem r_and {t u : TT} {R : Bool → Hp → Prop} (q : t σ H fun c H1 => if c = true then u σ H1 R else R false H1) : tAnd t u σ H R := q
theorem r_if {c A B : Prop} [Decidable c] (h1 : c → A) (h2 : ¬ c → B) : if decide c = true then A else B := by
  by_cases h : c
  · rw [if_pos (decide_eq_true h)]; exact h1 h
  · rw [if_neg (by simpa using h)]; exact h2 h
theorem r_ifn {c A B : Prop} [Decidable c] (h1 : ¬ c → A) (h2 : c → B) : if (!decide c) = true then A else B := by
  by_cases h : c
  · rw [if_neg (by simpa using h)]; exact h2 h
  · rw [if_pos (by simpa using h)]; exact h1 h
theorem r_ix {xs : List Nat} {z : Int} (hs : SqL K H p (nv xs)) (h0 : 0 ≤ z) (h : z < (xs.length : Int)) (q : Q (.int ((xs.getD z.toNat 0 : Nat) : Int)) H) : rIxL K (.ref p) (.int z) H Q :=
  ⟨p, _, z, _, rfl, rfl, hs, nv_at h0 h, q⟩
theorem r_ixN {xs : List Nat} {n : Nat} (hs : SqL K H p (nv xs)) (h : n < xs.length) (q : Q (.int ((xs.getD n 0 : Nat) : Int)) H) : rIxL K (.ref p) (.int (n : Int)) H Q :=
  ⟨p, _, n, _, rfl, rfl, hs, at_of rfl (nv_get h), q⟩
theorem r_ixT {xs : List Nat} {n : Nat} (hs : SqT K H p (nv xs)) (h : n < xs.length) (q : Q (.int ((xs.getD n 0 : Nat) : Int)) H) : rIxT K (.ref p) (.int (n : Int)) H Q :=
  ⟨p, _, n, _, rfl, rfl, hs, at_of rfl (nv_get h), q⟩
theorem r_notIn3 {z : Int} (hs : SqT K H p (nv [16, 24, 32])) (q : Q (.bl (!decide (z = 16 ∨ z = 24 ∨ z = 32))) H) : rIn K true (.int z) (.ref p) H Q := by
  refine ⟨p, _, rfl, .inr hs, rfl, by decide, ?_⟩
  have e : inV (.int z) (nv [16, 24, 32]) = decide (z = 16 ∨ z = 24 ∨ z = 32) := by
    rw [Bool.eq_iff_iff, decide_eq_true_iff]
    show (((16 : Int) == z) || (((24 : Int) == z) || (((32 : Int) == z) || false))) = true ↔ _
    simp only [Bool.or_eq_true, beq_iff_eq, Bool.false_eq_true, or_false]
    omega
  rw [e]
  exact q
theorem r_tyL {xs : List V} {R : Prop} (h : SqL K H p xs) (q : R) : tyV K "list" (.ref p) H ∧ R := ⟨.inl ⟨rfl, _, h⟩, q⟩
theorem r_bm {T : String} {m : V → List V → Hp → VK → Prop} {t : TA} (q : ta σ H fun x H1 => tyV K T x H1 ∧ t σ H1 fun xs H2 => m x xs H2 Q) : tBM K T m ta t σ H Q := q
theorem r_nil {R : List V → Hp → Prop} (q : R [] H) : tNil σ H R := q
theorem r_cons {t : TA} {R : List V → Hp → Prop} (q : ta σ H fun x H1 => t σ H1 fun xs H2 => R (x :: xs) H2) : tCons ta t σ H R := q
theorem r_lst {t : TA} (q : t σ H fun xs H1 => NewL xs H1 Q) : tLst t σ H Q := q
theorem r_new {xs : List V} (L : Loc H0 H ls) (hz : xs.length ≤ sizeLine) (q : ∀ p H', Loc H0 H' (ls ++ [(p, .lst xs)]) → Q (.ref p) H') : NewL xs H Q :=
  ⟨hz, fun p hp => q p _ (L.new hp)⟩
theorem r_append {xs : List V} {y : V} (L : Loc H0 H ls) (j : Nat) (hj : ls[j]? = some (p, .lst xs)) (hz : xs.length < sizeLine) (q : ∀ H', Loc H0 H' (ls.set j (p, .lst (xs ++ [y]))) → Q .non H') : rAppend (.ref p) [y] H Q :=
  ⟨p, xs, y, rfl, rfl, L.get j hj, hz, q _ (L.put j hj)⟩
theorem r_extend {xs ys : List V} {b : Addr} (L : Loc H0 H ls) (j : Nat) (hj : ls[j]? = some (p, .lst xs)) (hb : H b = some (.lst ys)) (hz : xs.length + ys.length ≤ sizeLine) (q : ∀ H', Loc H0 H' (ls.set j (p, .lst (xs ++ ys))) → Q .non H') : rExtend (.ref p) [.ref b] H Q :=
  ⟨p, b, xs, ys, rfl, rfl, L.get j hj, hb, hz, q _ (L.put j hj)⟩
theorem r_slice {xs : List V} {lo hi : Option Int} {a : Addr} (L : Loc H0 H ls) (h : SqL K H a xs) (q : ∀ p H', Loc H0 H' (ls ++ [(p, .lst (cutV xs lo hi))]) → Q (.ref p) H') : rSlL K (.ref a) lo hi H Q :=
  ⟨a, xs, rfl, h, fun p hp => q p _ (L.new hp)⟩
theorem r_cat {xs ys : List V} {a b : Addr} (L : Loc H0 H ls) (ha : H a = some (.lst xs)) (hb : H b = some (.lst ys)) (hz : xs.length + ys.length ≤ sizeLine) (q : ∀ p H', Loc H0 H' (ls ++ [(p, .lst (xs ++ ys))]) → Q (.ref p) H') : rCat (.ref a) (.ref b) H Q :=
  ⟨a, b, xs, ys, rfl, rfl, ha, hb, hz, fun p hp => q p _ (L.new hp)⟩
theorem r_sl {r : V → Option Int → Option Int → Hp → VK → Prop} {te : TE} {tl th : TO} (q : te σ H fun x H1 => tl σ H1 fun l H2 => th σ H2 fun u H3 => r x l u H3 Q) : tSl r te tl th σ H Q := q
theorem r_noPart {R : Option Int → Hp → Prop} (q : R none H) : tNoPart σ H R := q
theorem r_part {te : TE} {R : Option Int → Hp → Prop} (q : te σ H fun x H1 => ∃ i, x = .int i ∧ R (some i) H1) : tPart te σ H R := q
theorem r_exInt {z : Int} {R : Int → Prop} (q : R z) : ∃ i, V.int z = .int i ∧ R i := ⟨z, rfl, q⟩
theorem r_setL {xs : List V} {n : Nat} {y : V} {R : Hp → Prop} (L : Loc H0 H ls) (j : Nat) (hj : ls[j]? = some (p, .lst xs)) (hn : n < xs.length) (q : ∀ H', Loc H0 H' (ls.set j (p, .lst (xs.set n y))) → R H') : rSetL (.ref p) (.int (n : Int)) y H R :=
  ⟨p, xs, n, n, rfl, rfl, L.get j hj, by unfold ixN; rw [if_pos (by omega), if_pos (by omega)]; simp, q _ (L.put j hj)⟩
theorem r_cb {t : TA} {f : List V → Hp → VK → Prop} (q : t σ H fun vs H1 => f vs H1 Q) : tCB f t σ H Q := q
theorem r_len {xs : List V} (h : SqL K H p xs) (q : Q (.int (xs.length : Int)) H) : RLen K [.ref p] H Q :=
  ⟨p, xs, rfl, .inl h, q⟩
theorem r_listOf {xs : List V} {a : Addr} (L : Loc H0 H ls) (h : SqL K H a xs) (q : ∀ p H', Loc H0 H' (ls ++ [(p, .lst xs)]) → Q (.ref p) H') : RList K [.ref a] H Q :=
  ⟨a, xs, rfl, .inl h, fun p hp => q p _ (L.new hp)⟩
theorem r_call {sp : Sp} {dvs : List V} {E : XK} {t : TA} (q : t σ H fun vs H1 => sp (vs ++ dvs) H1 Q E) : tCall sp dvs E t σ H Q := q
theorem r_ifE {t : TT} (q : t σ H fun c H1 => if c = true then ta σ H1 Q else tb σ H1 Q) : tIf t ta tb σ H Q := q
/-! statements -/
theorem s_seq {t u : TS} (q : t { D with nx := u D } σ H) : tSeq t u D σ H := q
theorem s_asg {g : TG} (q : ta σ H fun x H1 => g x σ H1 D.nx) : tAsg ta g D σ H := q
theorem s_name {R : L2.St → Hp → Prop} (q : R (σ.set i (some v)) H) : gName i v σ H R := q
theorem s_ret (q : ta σ H D.rt) : tRet ta D σ H := q
theorem s_drop (q : ta σ H fun _ H1 => D.nx σ H1) : tDrop ta D σ H := q
theorem s_if {c : TT} {t u : TS} (q : c σ H fun b H1 => if b = true then t D σ H1 else u D σ H1) : tIfS c t u D σ H := q
theorem s_next (q : D.nx σ H) : tNext D σ H := q
theorem s_sub {to ti : TE} {t : TSet} {R : L2.St → Hp → Prop} (q : to σ H fun o H1 => ti σ H1 fun i H2 => t o i v H2 fun H3 => R σ H3) : gSub to ti t v σ H R := q
theorem s_for {wi : TI} {g : TG} {tb : TS} (q : wi σ H fun J H1 => ∃ W : Nat → Nat → L2.St → Hp → Prop, (∃ m, W 0 m σ H1) ∧ ∀ i m σ H, W i m σ H →
  (J.stop i H ∧ D.nx σ H) ∨ (J.go i H ∧ ∃ N : L2.St → Hp → Prop, (∀ σ' H', N σ' H' → ∃ m', m' < m ∧ W (i + 1) m' σ' H') ∧ ∀ x H', J.yld i H x H' → g x σ H' fun σ2 H2 => tb { D with nx := N, ct := N, bk := D.nx } σ2 H2)) : tFor wi g tb D σ H := q
theorem r_rng3 {t : TA} {R : It → Hp → Prop} (q : t σ H fun vs H1 => ∃ (i j c : Int) (n : Nat), vs = [.int i, .int j, .int c] ∧ RgC i j c n ∧ R (Itc i c n) H1) : iRng3 t σ H R := q
theorem r_rng2 {t : TA} {R : It → Hp → Prop} (q : t σ H fun vs H1 => ∃ i j : Int, vs = [.int i, .int j] ∧ (-(2 ^ 62) ≤ i ∧ i < 2 ^ 62 ∧ -(2 ^ 62) ≤ j ∧ j < 2 ^ 62) ∧ R (Itr i (j - i).toNat) H1) : iRng2 t σ H R := q
theorem r_rng1 {t : TA} {R : It → Hp → Prop} (q : t σ H fun vs H1 => ∃ j : Int, vs = [.int j] ∧ -(2 ^ 62) ≤ j ∧ j < 2 ^ 62 ∧ R (Itr 0 j.toNat) H1) : iRng1 t σ H R := q
theorem r_ilist {tl : TE} {R : It → Hp → Prop} (q : tl σ H fun x H1 => ∃ a, x = .ref a ∧ (∃ xs, SqL K H1 a xs) ∧ R (Itl K a) H1) : iList K tl σ H R := q
theorem r_ituple {tl : TE} {R : It → Hp → Prop} (q : tl σ H fun x H1 => ∃ a, x = .ref a ∧ (∃ xs, SqT K H1 a xs) ∧ R (Itt K a) H1) : iTup K tl σ H R := q
theorem r_lenN {xs : List Nat} (h : SqL K H p (nv xs)) (q : Q (.int (xs.length : Int)) H) : RLen K [.ref p] H Q :=
  ⟨p, nv xs, rfl, .inl h, by rw [nv_len]; exact q⟩
end
/-! ### loops -/
section
variable {g : TG} {tb : TS} {σ : L2.St} {H : Hp} {nx : L2.St → Hp → Prop} {rt : VK} {K : PySem.W.Frag} {a : Addr} {xs : List V}
theorem f_rangeC {lo c : Int} {n : Nat} (Pv : Nat → L2.St → Hp → Prop) (h0 : Pv 0 σ H)
    (hs : ∀ i σ H, i < n → Pv i σ H → g (.int (lo + (i : Nat) * c)) σ H fun σ2 H2 => tb { nx := Pv (i + 1), rt := rt, bk := nx, ct := Pv (i + 1) } σ2 H2) (hd : ∀ σ H, Pv n σ H → nx σ H) :
    ∃ W : Nat → Nat → L2.St → Hp → Prop, (∃ m, W 0 m σ H) ∧ ∀ i m σ H, W i m σ H →
      ((Itc lo c n).stop i H ∧ nx σ H) ∨ ((Itc lo c n).go i H ∧ ∃ N : L2.St → Hp → Prop, (∀ σ' H', N σ' H' → ∃ m', m' < m ∧ W (i + 1) m' σ' H') ∧ ∀ x H', (Itc lo c n).yld i H x H' → g x σ H' fun σ2 H2 => tb { nx := N, rt := rt, bk := nx, ct := N } σ2 H2) :=
  for_rangeC (D := { nx := nx, rt := rt }) Pv h0 hs hd
theorem f_range {lo : Int} {n : Nat} (Pv : Nat → L2.St → Hp → Prop) (h0 : Pv 0 σ H)
    (hs : ∀ i σ H, i < n → Pv i σ H → g (.int (lo + i)) σ H fun σ2 H2 => tb { nx := Pv (i + 1), rt := rt, bk := nx, ct := Pv (i + 1) } σ2 H2) (hd : ∀ σ H, Pv n σ H → nx σ H) :
    ∃ W : Nat → Nat → L2.St → Hp → Prop, (∃ m, W 0 m σ H) ∧ ∀ i m σ H, W i m σ H →
      ((Itr lo n).stop i H ∧ nx σ H) ∨ ((Itr lo n).go i H ∧ ∃ N : L2.St → Hp → Prop, (∀ σ' H', N σ' H' → ∃ m', m' < m ∧ W (i + 1) m' σ' H') ∧ ∀ x H', (Itr lo n).yld i H x H' → g x σ H' fun σ2 H2 => tb { nx := N, rt := rt, bk := nx, ct := N } σ2 H2) :=
  for_range (D := { nx := nx, rt := rt }) Pv h0 hs hd
theorem f_list (Pv : Nat → L2.St → Hp → Prop) (h0 : Pv 0 σ H) (hl : ∀ i σ H, i ≤ xs.length → Pv i σ H → SqL K H a xs)
    (hs : ∀ i x σ H, xs[i]? = some x → Pv i σ H → g x σ H fun σ2 H2 => tb { nx := Pv (i + 1), rt := rt, bk := nx, ct := Pv (i + 1) } σ2 H2) (hd : ∀ σ H, Pv xs.length σ H → nx σ H) :
    ∃ W : Nat → Nat → L2.St → Hp → Prop, (∃ m, W 0 m σ H) ∧ ∀ i m σ H, W i m σ H →
      ((Itl K a).stop i H ∧ nx σ H) ∨ ((Itl K a).go i H ∧ ∃ N : L2.St → Hp → Prop, (∀ σ' H', N σ' H' → ∃ m', m' < m ∧ W (i + 1) m' σ' H') ∧ ∀ x H', (Itl K a).yld i H x H' → g x σ H' fun σ2 H2 => tb { nx := N, rt := rt, bk := nx, ct := N } σ2 H2) :=
  for_list (D := { nx := nx, rt := rt }) Pv h0 hl hs hd
theorem f_tup (Pv : Nat → L2.St → Hp → Prop) (h0 : Pv 0 σ H) (hl : ∀ i σ H, i ≤ xs.length → Pv i σ H → SqT K H a xs)
    (hs : ∀ i x σ H, xs[i]? = some x → Pv i σ H → g x σ H fun σ2 H2 => tb { nx := Pv (i + 1), rt := rt, bk := nx, ct := Pv (i + 1) } σ2 H2) (hd : ∀ σ H, Pv xs.length σ H → nx σ H) :
    ∃ W : Nat → Nat → L2.St → Hp → Prop, (∃ m, W 0 m σ H) ∧ ∀ i m σ H, W i m σ H →
      ((Itt K a).stop i H ∧ nx σ H) ∨ ((Itt K a).go i H ∧ ∃ N : L2.St → Hp → Prop, (∀ σ' H', N σ' H' → ∃ m', m' < m ∧ W (i + 1) m' σ' H') ∧ ∀ x H', (Itt K a).yld i H x H' → g x σ H' fun σ2 H2 => tb { nx := N, rt := rt, bk := nx, ct := N } σ2 H2) :=
  for_tup (D := { nx := nx, rt := rt }) Pv h0 hl hs hd
end
/-! ### while, by turns -/
section
variable {c : TT} {tb : TS} {σ : L2.St} {H : Hp} {D : Ends}
def WGo (n t : Nat) (Pv : Nat → L2.St → Hp → Prop) (tb : TS) (nx : L2.St → Hp → Prop) (rt : VK) (σ : L2.St) (H1 : Hp) : Prop :=
  ∃ N : L2.St → Hp → Prop, (∀ σ' H', N σ' H' → ∃ m', m' < n - t ∧ ∃ t', t' ≤ n ∧ m' = n - t' ∧ Pv t' σ' H') ∧ tb { nx := N, rt := rt, bk := nx, ct := N } σ H1
theorem wgo {n t : Nat} {Pv : Nat → L2.St → Hp → Prop} {nx : L2.St → Hp → Prop} {rt : VK} (ht : t < n) (q : tb { nx := Pv (t + 1), rt := rt, bk := nx, ct := Pv (t + 1) } σ H) : WGo n t Pv tb nx rt σ H :=
  ⟨Pv (t + 1), fun σ' H' p => ⟨n - (t + 1), by omega, t + 1, by omega, rfl, p⟩, q⟩
theorem w_by (Pv : Nat → L2.St → Hp → Prop) (n : Nat) (h0 : Pv 0 σ H)
    (hs : ∀ t σ H, t ≤ n → Pv t σ H → c σ H fun b H1 => if b = true then WGo n t Pv tb D.nx D.rt σ H1 else D.nx σ H1) : tWhile c tb D σ H := by
  refine ⟨fun m σ H => ∃ t, t ≤ n ∧ m = n - t ∧ Pv t σ H, ⟨_, 0, Nat.zero_le _, rfl, h0⟩, ?_⟩
  rintro m σ H ⟨t, ht, rfl, p⟩
  exact hs t σ H ht p
end
/-! ### comprehensions whose item is a number -/
section
variable {s : Nat} {te : TE} {σ : L2.St} {H H0 H1 : Hp} {K : PySem.W.Frag} {a : Addr} {Q : VK} {ls : List (Addr × HO)}
def LcGo (J : It) (g : TG) (tt : TT) (te : TE) (vs : List Nat) (σ : L2.St) (H1 : Hp) (Q : VK) : Prop := ∀ D, H1 D = none → ∃ W : Nat → Nat → Hp → Prop, (∃ m, W 0 m (upd H1 D (.lst []))) ∧ ∀ i m H, W i m H →
  (J.stop i H ∧ Q (.ref D) H) ∨ (J.go i H ∧ ∃ Nx : Hp → Prop, (∀ H', Nx H' → ∃ m', m' < m ∧ W (i + 1) m' H') ∧ ∀ x H', J.yld i H x H' → g x (wipe σ vs) H' fun σ2 H2 => wipe σ2 vs = wipe σ vs ∧ tt σ2 H2 fun b H3 =>
    if b = true then te σ2 H3 fun y H4 => ∃ acc, H4 D = some (.lst acc) ∧ acc.length < sizeLine ∧ Nx (upd H4 D (.lst (acc ++ [y]))) else Nx H3)
theorem r_lc {wi : TI} {g : TG} {tt : TT} {vs : List Nat} (q : wi σ H fun J H1 => LcGo J g tt te vs σ H1 Q) : tLc wi g tt te vs σ H Q := q
theorem r_isq {p : Addr} {xs : List V} {R : Addr → Prop} (h : SqL K H p xs) (q : R p) : ∃ a, V.ref p = .ref a ∧ (∃ xs, SqL K H a xs) ∧ R a := ⟨p, rfl, ⟨_, h⟩, q⟩
theorem r_ist {p : Addr} {xs : List V} {R : Addr → Prop} (h : SqT K H p xs) (q : R p) : ∃ a, V.ref p = .ref a ∧ (∃ xs, SqT K H a xs) ∧ R a := ⟨p, rfl, ⟨_, h⟩, q⟩
theorem wipe_self (σ : L2.St) (s : Nat) (v : Option V) : wipe ((wipe σ [s]).set s v) [s] = wipe σ [s] := by
  simp [wipe]
theorem lc_turn {n : Nat} {f : Nat → Nat} {J : It} (L : Loc H0 H1 ls) (hz : n ≤ sizeLine) (xv : Nat → V)
    (hgo : ∀ (i : Nat) (H : Hp), i < n → Same H1 H → J.go i H) (hstop : ∀ (H : Hp), Same H1 H → J.stop n H) (hy : ∀ (i : Nat) (H H' : Hp) (x : V), i < n → Same H1 H → J.yld i H x H' → H' = H ∧ x = xv i)
    (he : ∀ (i : Nat), i < n → ∀ (H : Hp) (D : Addr) (o : HO) (R : VK), Loc H0 H (ls ++ [(D, o)]) → R (.int ((f i : Nat) : Int)) H → te ((σ.set s none).set s (some (xv i))) H R)
    (q : ∀ D H', Loc H0 H' (ls ++ [(D, .lst (nv ((List.range n).map f)))]) → Q (.ref D) H') : LcGo J (gName s) tYes te [s] σ H1 Q := by
  intro D hD
  have M0 : Loc H1 (upd H1 D (.lst (nv ((List.range 0).map f)))) [(D, .lst (nv ((List.range 0).map f)))] := Loc.one hD
  refine ⟨fun i m H => m = n - i ∧ i ≤ n ∧ Loc H1 H [(D, .lst (nv ((List.range i).map f)))], ⟨n, by simp, Nat.zero_le _, M0⟩, ?_⟩
  rintro i m H ⟨rfl, hi, M⟩
  by_cases hlt : i < n
  · refine .inr ⟨hgo i H hlt M.same, fun H' => Loc H1 H' [(D, .lst (nv ((List.range (i + 1)).map f)))], fun H' M' => ⟨n - (i + 1), by omega, rfl, hlt, M'⟩, fun x H' y => ?_⟩
    obtain ⟨rfl, rfl⟩ := hy i H H' x hlt M.same y
    refine ⟨wipe_self σ s _, ?_⟩
    show te _ _ _
    refine he i hlt _ D _ _ (L.calls M) ⟨_, M.get 0 rfl, ?_, ?_⟩
    · rw [nv_len, List.length_map, List.length_range]; omega
    · have := M.put (o' := .lst (nv ((List.range i).map f) ++ [.int ((f i : Nat) : Int)])) 0 rfl
      rw [nv_snoc] at this
      rw [List.range_succ, List.map_append]
      rw [nv_snoc]
      exact this
  · have e : i = n := by omega
    subst e
    exact .inl ⟨hstop H M.same, q D H (L.calls M)⟩
/-- over a list of numbers -/
theorem lc_l {xs : List Nat} (L : Loc H0 H1 ls) (hs : SqL K H1 a (nv xs)) (hz : xs.length ≤ sizeLine) (f : Nat → Nat)
    (he : ∀ (i : Nat), i < xs.length → ∀ (H : Hp) (D : Addr) (o : HO) (R : VK), Loc H0 H (ls ++ [(D, o)]) → R (.int ((f i : Nat) : Int)) H → te ((σ.set s none).set s (some (.int ((xs.getD i 0 : Nat) : Int)))) H R)
    (q : ∀ D H', Loc H0 H' (ls ++ [(D, .lst (nv ((List.range xs.length).map f)))]) → Q (.ref D) H') : LcGo (Itl K a) (gName s) tYes te [s] σ H1 Q :=
  lc_turn L hz (fun i => .int ((xs.getD i 0 : Nat) : Int)) (fun i H hi sm => ⟨_, _, sm.seq hs, nv_get hi⟩) (fun H sm => ⟨_, sm.seq hs, by rw [nv_len]; exact Nat.le_refl _⟩)
    (fun i H H' x hi sm y => ⟨y.1, (nv_of_get (y.2 _ (sm.seq hs))).2⟩) he q
theorem SqT.mono {xs : List V} (h : SqT K H1 a xs) (e : Same H1 H) : SqT K H a xs := by
  rcases h with (h | ⟨o, h⟩) | h
  · exact .inl (.inl (e _ _ h))
  · exact .inl (.inr ⟨o, e _ _ h⟩)
  · exact .inr h
theorem lc_t {xs : List Nat} (L : Loc H0 H1 ls) (hs : SqT K H1 a (nv xs)) (hz : xs.length ≤ sizeLine) (f : Nat → Nat)
    (he : ∀ (i : Nat), i < xs.length → ∀ (H : Hp) (D : Addr) (o : HO) (R : VK), Loc H0 H (ls ++ [(D, o)]) → R (.int ((f i : Nat) : Int)) H → te ((σ.set s none).set s (some (.int ((xs.getD i 0 : Nat) : Int)))) H R)
    (q : ∀ D H', Loc H0 H' (ls ++ [(D, .lst (nv ((List.range xs.length).map f)))]) → Q (.ref D) H') : LcGo (Itt K a) (gName s) tYes te [s] σ H1 Q :=
  lc_turn L hz (fun i => .int ((xs.getD i 0 : Nat) : Int)) (fun i H hi sm => ⟨_, _, SqT.mono hs sm, nv_get hi⟩) (fun H sm => ⟨_, SqT.mono hs sm, by rw [nv_len]; exact Nat.le_refl _⟩)
    (fun i H H' x hi sm y => ⟨y.1, (nv_of_get (y.2 _ (SqT.mono hs sm))).2⟩) he q
theorem lc_r {n : Nat} (L : Loc H0 H1 ls) (hz : n ≤ sizeLine) (f : Nat → Nat)
    (he : ∀ (i : Nat), i < n → ∀ (H : Hp) (D : Addr) (o : HO) (R : VK), Loc H0 H (ls ++ [(D, o)]) → R (.int ((f i : Nat) : Int)) H → te ((σ.set s none).set s (some (.int (i : Int)))) H R)
    (q : ∀ D H', Loc H0 H' (ls ++ [(D, .lst (nv ((List.range n).map f)))]) → Q (.ref D) H') : LcGo (Itr 0 n) (gName s) tYes te [s] σ H1 Q :=
  lc_turn L hz (fun i => .int (i : Int)) (fun i H hi _ => hi) (fun H _ => Nat.le_refl n) (fun i H H' x hi _ y => ⟨y.1, by rw [y.2, Int.zero_add]⟩) he q
theorem range_map_get (xs : List Nat) (f : Nat → Nat) : (List.range xs.length).map (fun i => f (xs.getD i 0)) = xs.map f := by
  refine List.ext_getElem (by simp) fun i h1 h2 => ?_
  have hi : i < xs.length := by simpa using h1
  simp [hi]
end
/-! ### a statement with a word behind it -/
def tMid (t : TS) : TS := fun D σ H => ∃ M : L2.St → Hp → Prop, t { D with nx := M } σ H ∧ ∀ σ' H', M σ' H' → D.nx σ' H'
theorem ps_mid {X : Cx} {st : Stmt} {t : TS} (h : PS X st t) : PS X st (tMid t) := by
  intro pins s σ H D I q
  obtain ⟨M, q, r⟩ := q
  refine thn (h pins s σ H { D with nx := M } I q) fun f s1 z => ?_
  cases f with
  | next => obtain ⟨σ', H', I', z⟩ := z; exact ⟨σ', H', I', r _ _ z⟩
  | ret v => exact z
  | brk => exact z
  | cont => exact z
/-! ### tuples of the top -/
def cmpVals : List Value → List Nat → Bool
  | [], [] => true
  | .int i _ :: vs, n :: ns => (i == (n : Int)) && cmpVals vs ns
  | _, _ => false
def tupVals (its : Array Value) (xs : List Nat) : Bool := cmpVals its.toList xs && decide (its.size ≤ sizeLine)
theorem cmp_vals : ∀ {vs : List Value} {ns : List Nat}, cmpVals vs ns = true → Vals (nv ns) vs
  | [], [], _ => .nil
  | .int i t :: vs, n :: ns, h => by
    have h : ((i == (n : Int)) && cmpVals vs ns) = true := h
    rw [Bool.and_eq_true, beq_iff_eq] at h
    exact .cons ⟨t, by rw [h.1]⟩ (cmp_vals h.2)
  | [], _ :: _, h => by cases h
  | .int _ _ :: _, [], h => by cases h
  | .none :: _, [], h => by cases h
  | .none :: _, _ :: _, h => by cases h
  | .bool _ :: _, _, h => by simp [cmpVals] at h
  | .str _ _ :: _, _, h => by simp [cmpVals] at h
  | .ref _ :: _, _, h => by simp [cmpVals] at h
  | .type _ :: _, _, h => by simp [cmpVals] at h
  | .builtin _ :: _, _, h => by simp [cmpVals] at h
  | .float _ _ :: _, _, h => by simp [cmpVals] at h
  | .bytes _ _ :: _, _, h => by simp [cmpVals] at h
theorem tup_of {K : PySem.W.Frag} {a : Addr} {od : Option Addr} {its : Array Value} {n : Nat} {sl : Array (Option Value)} {xs : List Nat} (l : K.lookup a = some ⟨.type "tuple", od, .seq its n, sl⟩) (v : tupVals its xs = true) (H : Hp) : SqT K H a (nv xs) := by
  unfold tupVals at v
  rw [Bool.and_eq_true] at v
  exact .inr ⟨_, its, n, l, rfl, rfl, of_decide_eq_true v.2, cmp_vals v.1⟩
/-! ### what is called -/
structure Callee (P : Program) (w : World) (K : PySem.W.Frag) (mg : Str → Option Value) (base : Heap) (k : Nat) (x : Str) (ps : List Str) (sp : Sp) : Prop where
  ex : ∃ f fd, FnOk P w K mg base CX0 k f fd ps sp ∧ mg x = some (.ref f) ∧ PySem.W.keepIn K (.ref f) = true ∧ Binds K fd ps []
theorem pe_fn {X : Cx} {k : Nat} {x : Str} {ps : List Str} {sp : Sp} {p pos : Pos} {e : Expr} {es : List Expr} {t : TA} (C : Callee X.prog X.w X.K X.mg X.base k x ps sp) (hr : Room k X.A) (hg : Gl X x) (ha : PA X (e :: es) t)
    (hdb : (x == ("__debug__" : Str)) = false := by decide) (he : starEach (e :: es) X.env = (false, eval e X.env) :: starEach es X.env := by rfl) (hpl : (backTo pos (starEach es X.env)).any (·.1) = false := by rfl) :
    PE X (.Call (.Name x p) (e :: es) [] pos) (tCall sp [] E0 t) := by
  obtain ⟨f, fd, F, hm, hk, hb⟩ := C.ex
  exact pe_call F hr hg hm hk hb .nil pass0 ha hdb he hpl
end My
end
section
set_option Elab.async false
set_option linter.all false
set_option maxRecDepth 100000
set_option maxHeartbeats 2000000
namespace My
open PySem PySem.Spec PyProof.Rows L2
/-! ### lists put together, whatever they are (tracked, handed in, of the module) -/
def rCatK (K : PySem.W.Frag) : R2 := fun x y H Q => ∃ l b xs zs, x = .ref l ∧ y = .ref b ∧ SqL K H l xs ∧ SqL K H b zs ∧ xs.length + zs.length ≤ sizeLine ∧ ∀ p, H p = none → Q (.ref p) (upd H p (.lst (xs ++ zs)))
theorem op_catS {X : Cx} : OpR X (binaryOp .Add) (rCatK X.K) := by
  intro pins s σ H x y v u Q I rx ry h
  obtain ⟨l, b, xs, zs, rfl, rfl, hH, hB, hz, q⟩ := h
  cases rx
  cases ry
  obtain ⟨its, r, ⟨⟨cls, dd, data, sl⟩, n, ho, hc, hdn, hd⟩, z⟩ := I.list hH
  obtain ⟨its2, r2, ⟨⟨cls2, dd2, data2, sl2⟩, n2, ho2, hc2, hdn2, hd2⟩, z2⟩ := I.list hB
  simp only at hc hd hc2 hd2
  subst hc hd hc2 hd2
  have hl := r.length
  have hl2 := r2.length
  have ea : its.toArray ++ its2.toArray = (its ++ its2).toArray := by simp
  refine concat_meets ⟨_, ho, rfl⟩ ⟨_, ho2, rfl⟩ noFill_list_add seq_list_add PySem.F.slot_list_add PySem.F.entry_list_add (PySem.F.args_list_add_2 _ _) (list_addW l b its.toArray its2.toArray n n2 dd dd2 sl sl2 (by rw [List.size_toArray, List.size_toArray]; omega)) ⟨ho, ho2, ?_⟩
  rw [ea]
  exact ⟨.ref _, _, I.lnew (t' := s.toks) (r.append r2) (by rw [List.length_append]; omega), rfl, q _ I.fresh⟩
theorem op_catK {X : Cx} {K : PySem.W.Frag} (h : X.K = K) : OpR X (binaryOp .Add) (rCatK K) := h ▸ op_catS
theorem mt_indexK {X : Cx} {K : PySem.W.Frag} (h : X.K = K) : MtR X "list.index" (rIndex K) := h ▸ mt_index
theorem pg_tupK {X : Cx} {K : PySem.W.Frag} {es : List Expr} {k : Nat} {pos : Pos} {t : TGs} {n : Nat} (hK : X.K = K) (hc : X.calm = true) (h : PGs X es t)
    (hn : (assignEach es X.env).length = n := by rfl) (hst : (assignEach es X.env).findIdx? (·.1) = none := by rfl) : PG X (.Tuple es k pos) (gTup K n t) := hK ▸ pg_tup hc h hn hst
theorem pi_zipK {X : Cx} {K : PySem.W.Frag} {e e2 : Expr} {ta : TA} {p pos tpos : Pos} {elts : List Expr} {kk : Nat} (hK : X.K = K) (hg : Gl X "zip") (hm : X.mg "zip" = none) (ha : PA X [e, e2] ta)
    (hs : starEach [e, e2] X.env = (false, eval e X.env) :: starEach [e2] X.env := by rfl) (hpl : (backTo pos (starEach [e2] X.env)).any (·.1) = false := by rfl) :
    PI X (.Tuple elts kk tpos) (.Call (.Name "zip" p) [e, e2] [] pos) (iZip K ta) := hK ▸ pi_zip hg hm ha hs hpl
def tTru (K : PySem.W.Frag) (ta : TE) : TT := fun σ H Q => ta σ H fun x H' => ∃ k, TruV K x H' k ∧ Q k H'
theorem pt_truthK {X : Cx} {K : PySem.W.Frag} {a : Expr} {ta : TE} (hK : X.K = K) (ha : PE X a ta) (he : ∀ whole, isTrue a X.env whole = (do let v ← whole; standAt a.pos; holding [v] (truthy v))) : PT X a (tTru K ta) := by
  subst hK
  exact pt_truth ha he
/-! ### a shift to the left by what the size allows -/
def CShl : Int → Int → Prop := fun i j => 0 ≤ j ∧ j ≤ 1000000 ∧ i.natAbs < 2 ^ 4096
theorem bits_le {a : Int} {n : Nat} (h : a.natAbs < 2 ^ n) : Builtin.Int.intBits a ≤ n := by
  unfold Builtin.Int.intBits
  split
  · exact Nat.zero_le _
  · rename_i h0
    have h0 : a.natAbs ≠ 0 := by
      intro e
      exact h0 (by simpa using e)
    have := (Nat.log2_lt h0).mpr h
    omega
theorem op_shlW {X : Cx} : OpR X (binaryOp .LShift) (rI CShl fun i j => .int (i * 2 ^ j.toNat)) := opI fun i j _ _ _ _ _ hc q => by
  refine lshift_int hc.1 ?_ q
  have := bits_le hc.2.2
  have := hc.2.1
  have : (2 : Int) ^ 27 = 134217728 := by decide
  omega
/-! ### own classes -/
structure Method (P : Program) (w : World) (K : PySem.W.Frag) (mg : Str → Option Value) (base : Heap) (k : Nat) (C : Addr) (m : Str) (ps : List Str) (sp : Sp) : Prop where
  ex : ∃ f fd, FnOk P w K mg base CX0 k f fd ps sp ∧ Meth K C m f ∧ Binds K fd ps []
structure Maker (P : Program) (w : World) (K : PySem.W.Frag) (mg : Str → Option Value) (base : Heap) (k : Nat) (C : Addr) (ps : List Str) (sp : Sp) : Prop where
  ex : ∃ f fd, FnOk P w K mg base CX0 k f fd ps sp ∧ Mk K C f ∧ Binds K fd ps []
section
variable {X : Cx} {k : Nat} {C : Addr} {m x : Str} {ps : List Str} {sp : Sp} {p pos apos : Pos} {o e : Expr} {es : List Expr} {ta : TE} {t : TA}
theorem pe_me {pl : Sem Bool} (c : Cls X.K C) (M : Method X.prog X.w X.K X.mg X.base k C m ps sp) (hr : Room k X.A) (he : PE X o ta) (ha : PA X (e :: es) t)
    (hst : starEach (e :: es) X.env = (false, eval e X.env) :: starEach es X.env := by rfl) (hpl : (backTo pos (starEach es X.env)).any (·.1) = false := by rfl)
    (ht : eval (.Call (.Attribute o m apos) (e :: es) [] pos) X.env = (do
      let ov ← eval o X.env
      standAt apos.atName
      let (f, first) ← holding [ov] (getMethod ov m pl)
      callWith pos f first (backTo pos (starEach (e :: es) X.env)) (backToKw pos (keywordEach [] X.env))) := by rfl) :
    PE X (.Call (.Attribute o m apos) (e :: es) [] pos) (tMeth C m sp [] E0 ta t) := by
  obtain ⟨f, fd, F, hm, hb⟩ := M.ex
  exact pe_meth he c hm F hr hb .nil pass0 ha hst hpl ht
theorem pe_me0 {pl : Sem Bool} (c : Cls X.K C) (M : Method X.prog X.w X.K X.mg X.base k C m ps sp) (hr : Room k X.A) (he : PE X o ta)
    (ht : eval (.Call (.Attribute o m apos) [] [] pos) X.env = (do
      let ov ← eval o X.env
      standAt apos.atName
      let (f, first) ← holding [ov] (getMethod ov m pl)
      callWith pos f first (backTo pos (starEach [] X.env)) (backToKw pos (keywordEach [] X.env))) := by rfl) :
    PE X (.Call (.Attribute o m apos) [] [] pos) (tMeth C m sp [] E0 ta tNil) := by
  obtain ⟨f, fd, F, hm, hb⟩ := M.ex
  exact pe_meth0 he c hm F hr hb .nil pass0 ht
theorem pe_mk (hm : X.mg x = some (.ref C)) (M : Maker X.prog X.w X.K X.mg X.base k C ps sp) (hr : Room (k + 1) X.A) (hg : Gl X x) (ha : PA X (e :: es) t)
    (hdb : (x == ("__debug__" : Str)) = false := by decide) (he : starEach (e :: es) X.env = (false, eval e X.env) :: starEach es X.env := by rfl) (hpl : (backTo pos (starEach es X.env)).any (·.1) = false := by rfl) :
    PE X (.Call (.Name x p) (e :: es) [] pos) (tMake C sp [] E0 t) := by
  obtain ⟨f, fd, F, mk, hb⟩ := M.ex
  exact pe_make mk F hr hg hm hb .nil pass0 ha hdb he hpl
theorem pe_mk0 (hm : X.mg x = some (.ref C)) (M : Maker X.prog X.w X.K X.mg X.base k C ps sp) (hr : Room (k + 1) X.A) (hg : Gl X x)
    (hdb : (x == ("__debug__" : Str)) = false := by decide) : PE X (.Call (.Name x p) [] [] pos) (tMake C sp [] E0 tNil) := by
  obtain ⟨f, fd, F, mk, hb⟩ := M.ex
  exact pe_make0 mk F hr hg hm hb .nil pass0 hdb
end
/-! ### an expression with a word behind it -/
def tMidE (t : TE) : TE := fun σ H Q => ∃ M : VK, t σ H M ∧ ∀ v H', M v H' → Q v H'
theorem pe_mid {X : Cx} {e : Expr} {t : TE} (h : PE X e t) : PE X e (tMidE t) := by
  intro pins s σ H Q I q
  obtain ⟨M, q, r⟩ := q
  exact thn (h pins s σ H M I q) fun u s1 ⟨v, H1, I1, rv, m⟩ => ⟨v, H1, I1, rv, r v H1 m⟩
theorem r_midE {t : TE} {σ : L2.St} {H : Hp} {Q : VK} (M : VK) (h : t σ H M) (q : ∀ v H', M v H' → Q v H') : tMidE t σ H Q := ⟨M, h, q⟩
/-! ### the heap without one object -/
def er (H : Hp) (x : Addr) : Hp := fun b => if b = x then none else H b
section
variable {H0 H H' : Hp} {ls ms : List (Addr × HO)} {x p : Addr} {o o' : HO} {K : PySem.W.Frag} {xs : List V}
theorem er_ne {b : Addr} (h : b ≠ x) : er H x b = H b := if_neg h
theorem er_same : er H x x = none := if_pos rfl
theorem er_some {b : Addr} (h : er H x b = some o) : b ≠ x ∧ H b = some o := by
  by_cases e : b = x
  · rw [e, er_same] at h; cases h
  · rw [er_ne e] at h; exact ⟨e, h⟩
/-- a method's body: its object is its own -/
theorem Loc.self (h : H x = some o) : Loc (er H x) H [(x, o)] := by
  refine ⟨fun b u e => (er_some e).2, by simp, fun q hq => ?_⟩
  rw [List.mem_singleton] at hq
  subst hq
  exact ⟨er_same, h⟩
/-- behind a method's call -/
theorem Loc.meth (L : Loc H0 H ls) (j : Nat) (hj : ls[j]? = some (x, o)) (M : Loc (er H x) H' ((x, o') :: ms)) : Loc H0 H' (ls.set j (x, o') ++ ms) := by
  have hx0 : H0 x = none := L.fresh j hj
  have hlt : j < ls.length := (List.getElem?_eq_some_iff.mp hj).1
  have sm : Same H0 H' := fun b u e => M.same b u (by rw [er_ne (ne_of_none e hx0)]; exact L.same b u e)
  have hm : (ls.set j (x, o')).map (·.1) = ls.map (·.1) := by
    rw [List.map_set]
    refine List.ext_getElem? fun i => ?_
    by_cases e : j = i
    · subst e
      rw [List.getElem?_set_self (by simpa using hlt), List.getElem?_map, hj]
      rfl
    · rw [List.getElem?_set_ne e]
  have nd := M.nd
  rw [List.map_cons, List.nodup_cons] at nd
  have msn : ∀ q ∈ ms, q.1 ≠ x ∧ H q.1 = none := fun q hq => by
    have h1 : q.1 ≠ x := fun e => nd.1 (List.mem_map.mpr ⟨q, hq, e⟩)
    have h2 := (M.at_ q (List.mem_cons_of_mem _ hq)).1
    rw [er_ne h1] at h2
    exact ⟨h1, h2⟩
  refine ⟨sm, ?_, fun q hq => ?_⟩
  · rw [List.map_append, List.nodup_append]
    refine ⟨by rw [hm]; exact L.nd, nd.2, fun a ha b hb e => ?_⟩
    subst e
    rw [hm] at ha
    obtain ⟨y, hy, rfl⟩ := List.mem_map.mp ha
    obtain ⟨z, hz, e⟩ := List.mem_map.mp hb
    have h1 := (L.at_ y hy).2
    have h2 := (msn z hz).2
    rw [e, h1] at h2
    cases h2
  · rcases List.mem_append.mp hq with h | h
    · obtain ⟨i, hi⟩ := List.getElem?_of_mem h
      by_cases e : j = i
      · subst e
        rw [List.getElem?_set_self hlt] at hi
        cases hi
        exact ⟨hx0, (M.at_ _ List.mem_cons_self).2⟩
      · rw [List.getElem?_set_ne e] at hi
        have ne : q.1 ≠ x := fun z => e (nd_ix L.nd (by rw [List.getElem?_map, hj]; rfl) (by rw [List.getElem?_map, hi]; simp [z]))
        have hq := L.at_ q (List.mem_of_getElem? hi)
        exact ⟨hq.1, M.same _ _ (by rw [er_ne ne]; exact hq.2)⟩
    · exact ⟨L.same.free (msn q h).2, (M.at_ q (List.mem_cons_of_mem _ h)).2⟩
theorem Loc.nil (L : Loc H0 H ls) : Loc H0 H [] := L.sub (List.nil_sublist _)
theorem Loc.then (L : Loc H0 H ls) (M : Loc H H' ms) : Loc H0 H' ms := L.nil.calls M
theorem same_er (h : Same H H') (x : Addr) : Same (er H x) (er H' x) := fun b u e => by
  obtain ⟨h1, h2⟩ := er_some e
  rw [er_ne h1]
  exact h b u h2
theorem same_er' (h : Same (er H x) H') : Same (er H x) (er H' x) := fun b u e => by
  obtain ⟨h1, h2⟩ := er_some e
  rw [er_ne h1]
  exact h b u e
theorem same_unEr (x : Addr) : Same (er H x) H := fun b u e => (er_some e).2
theorem SqL.erOf {C dx : Addr} {fs : List (Str × V)} (h : SqL K H p xs) (hx : H x = some (.ins C dx fs)) : SqL K (er H x) p xs := by
  rcases h with (h | ⟨u, h⟩) | h
  · exact .inl (.inl (by rw [er_ne (ne_of h hx (by intro z; cases z))]; exact h))
  · exact .inl (.inr ⟨u, by rw [er_ne (ne_of h hx (by intro z; cases z))]; exact h⟩)
  · exact .inr h
theorem er_keep (h : SqL K H p xs) (ne : p ≠ x) : SqL K (er H x) p xs := by
  rcases h with (h | ⟨u, h⟩) | h
  · exact .inl (.inl (by rw [er_ne ne]; exact h))
  · exact .inl (.inr ⟨u, by rw [er_ne ne]; exact h⟩)
  · exact .inr h
/-- a list that stands apart from an own object -/
theorem Loc.lstE (L : Loc H0 H ls) (i j : Nat) (hx : ls[i]? = some (x, o)) (hp : ls[j]? = some (p, .lst xs)) (hij : i ≠ j := by decide) : SqL K (er H x) p xs := by
  refine SqL.of ?_
  have ne : p ≠ x := fun z => hij (nd_ix L.nd (by rw [List.getElem?_map, hx]; rfl) (by rw [List.getElem?_map, hp]; simp [z]))
  rw [er_ne ne]
  exact L.get j hp
/-- what was handed in stands apart from an own object -/
theorem Loc.argE (L : Loc H0 H ls) (i : Nat) (hx : ls[i]? = some (x, o)) (h : SqL K H0 p xs) : SqL K (er H x) p xs := by
  refine Same.seq (fun b u e => ?_) h
  rw [er_ne (ne_of_none e (L.fresh i hx))]
  exact L.same b u e
end
/-! ### readings -/
section
variable {σ : L2.St} {H H0 : Hp} {Q : VK} {v : V} {i : Nat} {r : R2} {ta tb : TE} {K : PySem.W.Frag} {ls : List (Addr × HO)} {p : Addr} {D : Ends} {R : Bool → Hp → Prop}
def GetF (K : PySem.W.Frag) (f : Str) (x : V) (H : Hp) (Q : VK) : Prop := ∃ a C dx fs v, x = .ref a ∧ H a = some (.ins C dx fs) ∧ Cls K C ∧ NoAttr K C f ∧ fs.lookup f = some v ∧ Q v H
theorem r_fld {f : Str} (q : ta σ H fun x H1 => GetF K f x H1 Q) : tFld K ta f σ H Q := q
theorem r_getF {f : Str} {a C dx : Addr} {fs : List (Str × V)} (h : H a = some (.ins C dx fs)) (c : Cls K C) (n : NoAttr K C f) (l : fs.lookup f = some v) (q : Q v H) : GetF K f (.ref a) H Q := ⟨a, C, dx, fs, v, rfl, h, c, n, l, q⟩
def PutFld (K : PySem.W.Frag) (f : Str) (y x : V) (H : Hp) (R : Hp → Prop) : Prop := ∃ a C dx fs, x = .ref a ∧ H a = some (.ins C dx fs) ∧ Cls K C ∧ NoAttr K C f ∧ fs.length < 1000 ∧ R (upd H a (.ins C dx (putF f y fs)))
theorem s_fld {f : Str} {tv : TE} (q : tv σ H fun y H1 => ta σ H1 fun x H2 => PutFld K f y x H2 fun H3 => D.nx σ H3) : sFld K ta tv f D σ H := q
theorem r_putF {f : Str} {a C dx : Addr} {fs : List (Str × V)} {y : V} {R : Hp → Prop} (L : Loc H0 H ls) (j : Nat) (hj : ls[j]? = some (a, .ins C dx fs)) (c : Cls K C) (n : NoAttr K C f) (hl : fs.length < 1000)
    (q : ∀ H', Loc H0 H' (ls.set j (a, .ins C dx (putF f y fs))) → R H') : PutFld K f y (.ref a) H R := ⟨a, C, dx, fs, rfl, L.get j hj, c, n, hl, q _ (L.put j hj)⟩
def AtM (C : Addr) (m : Str) (x : V) (H : Hp) (R : Prop) : Prop := ∃ a dx fs, x = .ref a ∧ H a = some (.ins C dx fs) ∧ fs.lookup m = none ∧ R
theorem r_meth {C : Addr} {m : Str} {sp : Sp} {dvs : List V} {E : XK} {t : TA} (q : ta σ H fun x H1 => AtM C m x H1 (t σ H1 fun vs H2 => sp (x :: (vs ++ dvs)) H2 Q E)) : tMeth C m sp dvs E ta t σ H Q := q
theorem r_atM {C : Addr} {m : Str} {a dx : Addr} {fs : List (Str × V)} {R : Prop} (h : H a = some (.ins C dx fs)) (l : fs.lookup m = none) (q : R) : AtM C m (.ref a) H R := ⟨a, dx, fs, rfl, h, l, q⟩
theorem r_listT {xs : List V} {a : Addr} (L : Loc H0 H ls) (h : SqT K H a xs) (q : ∀ p H', Loc H0 H' (ls ++ [(p, .lst xs)]) → Q (.ref p) H') : RList K [.ref a] H Q :=
  ⟨a, xs, rfl, .inr h, fun p hp => q p _ (L.new hp)⟩
def NewI (C : Addr) (sp : Sp) (vs : List V) (H : Hp) (Q : VK) (E : XK) : Prop := ∀ x dx, H x = none → H dx = none → dx ≠ x → sp (.ref x :: vs) (upd (upd H dx (.own x)) x (.ins C dx [])) (fun v H2 => v = .non ∧ Q (.ref x) H2) E
theorem r_make {C : Addr} {sp : Sp} {dvs : List V} {E : XK} {t : TA} (q : t σ H fun vs H1 => NewI C sp (vs ++ dvs) H1 Q E) : tMake C sp dvs E t σ H Q := q
theorem r_newI {C : Addr} {sp : Sp} {vs : List V} {E : XK} (L : Loc H0 H ls) (q : ∀ x dx H', Loc H0 H' (ls ++ [(dx, .own x), (x, .ins C dx [])]) → sp (.ref x :: vs) H' (fun v H2 => v = .non ∧ Q (.ref x) H2) E) : NewI C sp vs H Q E := fun x dx hx hdx ne => by
  have L1 := L.new (o := .own x) hdx
  have hx1 : upd H dx (.own x) x = none := by rw [upd_ne (fun z => ne z.symm)]; exact hx
  have L2 := L1.new (o := .ins C dx []) hx1
  rw [List.append_assoc] at L2
  exact q x dx _ L2
theorem r_catK {xs ys : List V} {a b : Addr} (L : Loc H0 H ls) (ha : SqL K H a xs) (hb : SqL K H b ys) (hz : xs.length + ys.length ≤ sizeLine) (q : ∀ p H', Loc H0 H' (ls ++ [(p, .lst (xs ++ ys))]) → Q (.ref p) H') : rCatK K (.ref a) (.ref b) H Q :=
  ⟨a, b, xs, ys, rfl, rfl, ha, hb, hz, fun p hp => q p _ (L.new hp)⟩
theorem r_catO {xs ys : List V} {a b : Addr} (L : Loc H0 H ls) (ha : H a = some (.lst xs)) (hb : H b = some (.lst ys)) (hz : xs.length + ys.length ≤ sizeLine) (q : ∀ p H', Loc H0 H' (ls ++ [(p, .lst (xs ++ ys))]) → Q (.ref p) H') : rCatK K (.ref a) (.ref b) H Q :=
  r_catK L (SqL.of ha) (SqL.of hb) hz q
theorem r_cat2 {xs ys : List Nat} {a b : Addr} (L : Loc H0 H ls) (ha : SqL K H a (nv xs)) (hb : SqL K H b (nv ys)) (hz : xs.length + ys.length ≤ sizeLine) (q : ∀ p H', Loc H0 H' (ls ++ [(p, .lst (nv (xs ++ ys)))]) → Q (.ref p) H') : rCatK K (.ref a) (.ref b) H Q :=
  r_catK L ha hb (by rw [nv_len, nv_len]; exact hz) (by rw [← nv_app]; exact q)
theorem flat_one (n : Nat) (x : V) : (List.replicate n [x]).flatten = List.replicate n x := by
  induction n with
  | zero => rfl
  | succ n ih => rw [List.replicate_succ, List.flatten_cons, ih, List.replicate_succ]; rfl
theorem nv_rep (n x : Nat) : nv (List.replicate n x) = List.replicate n (V.int (x : Int)) := by simp [nv]
theorem r_rep {x n : Nat} {a : Addr} (L : Loc H0 H ls) (j : Nat) (hj : ls[j]? = some (a, .lst (nv [x]))) (hn : n ≤ sizeLine) (q : ∀ p H', Loc H0 H' (ls ++ [(p, .lst (nv (List.replicate n x)))]) → Q (.ref p) H') : rRep (.ref a) (.int (n : Int)) H Q := by
  have := sizeLine_eq
  refine ⟨a, n, nv [x], rfl, rfl, L.get j hj, by omega, by omega, by rw [nv_len]; simp; omega, fun p hp => q p _ ?_⟩
  have e : (List.replicate (n : Int).toNat (nv [x])).flatten = nv (List.replicate n x) := by rw [Int.toNat_natCast, nv_rep]; exact flat_one n _
  rw [e]
  exact L.new hp
theorem r_shrN {a b : Nat} (q : Q (.int ((a / 2 ^ b : Nat) : Int)) H) : rI (fun _ j => 0 ≤ j) (fun i j => .int (i / 2 ^ j.toNat)) (.int (a : Int)) (.int (b : Int)) H Q := by
  refine r_i2c (by omega) ?_
  rw [Int.toNat_natCast, show ((a : Int) / 2 ^ b) = ((a / 2 ^ b : Nat) : Int) by rw [Int.natCast_ediv, Int.natCast_pow]; rfl]
  exact q
theorem r_shlW {a b : Nat} (h1 : b ≤ 1000000) (h2 : a < 2 ^ 4096) (q : Q (.int ((a * 2 ^ b : Nat) : Int)) H) : rI CShl (fun i j => .int (i * 2 ^ j.toNat)) (.int (a : Int)) (.int (b : Int)) H Q := by
  refine r_i2c ⟨by omega, by omega, by rw [Int.natAbs_natCast]; exact h2⟩ ?_
  rw [Int.toNat_natCast, Bits.natCast_mul_pow]
  exact q
theorem r_andN {a b : Nat} (q : Q (.int ((a &&& b : Nat) : Int)) H) : rI0 (fun i j => .int (Builtin.bitAnd i j)) (.int (a : Int)) (.int (b : Int)) H Q := by
  refine r_i2 ?_
  rw [bitAnd_pp (Int.natCast_nonneg a) (Int.natCast_nonneg b), Int.toNat_natCast, Int.toNat_natCast]
  exact q
theorem r_orN {a b : Nat} (q : Q (.int ((a ||| b : Nat) : Int)) H) : rI0 (fun i j => .int (Builtin.bitOr i j)) (.int (a : Int)) (.int (b : Int)) H Q := by
  refine r_i2 ?_
  rw [Bits.bitOr_pp (Int.natCast_nonneg a) (Int.natCast_nonneg b), Int.toNat_natCast, Int.toNat_natCast]
  exact q
theorem r_subN {a b : Nat} (h : b ≤ a) (q : Q (.int ((a - b : Nat) : Int)) H) : rI0 (fun i j => .int (i - j)) (.int (a : Int)) (.int (b : Int)) H Q := by
  refine r_i2 ?_
  rw [show (a : Int) - (b : Int) = ((a - b : Nat) : Int) by omega]
  exact q
theorem r_le {a b : Nat} (q : Q (.bl (decide (a ≤ b))) H) : rI0 (fun i j => .bl (decide (i ≤ j))) (.int (a : Int)) (.int (b : Int)) H Q := by
  refine r_i2 ?_
  rw [show (decide ((a : Int) ≤ (b : Int))) = decide (a ≤ b) by simp]
  exact q
theorem r_gt {a b : Nat} (q : Q (.bl (decide (b < a))) H) : rI0 (fun i j => .bl (decide (j < i))) (.int (a : Int)) (.int (b : Int)) H Q := by
  refine r_i2 ?_
  rw [show (decide ((b : Int) < (a : Int))) = decide (b < a) by simp]
  exact q
theorem r_ge {a b : Nat} (q : Q (.bl (decide (b ≤ a))) H) : rI0 (fun i j => .bl (decide (j ≤ i))) (.int (a : Int)) (.int (b : Int)) H Q := by
  refine r_i2 ?_
  rw [show (decide ((b : Int) ≤ (a : Int))) = decide (b ≤ a) by simp]
  exact q
theorem r_tB {t : TE} (q : t σ H fun x H1 => ∃ c, x = .bl c ∧ R c H1) : tB t σ H R := q
theorem r_tNot {t : TT} (q : t σ H fun c H1 => R (!c) H1) : tNot t σ H R := q
theorem r_tOr {t u : TT} (q : t σ H fun c H1 => if c = true then R true H1 else u σ H1 R) : tOr t u σ H R := q
theorem r_andV (q : ta σ H fun x H1 => ∃ c, x = .bl c ∧ if c = true then tb σ H1 Q else Q (.bl false) H1) : tAndV ta tb σ H Q := q
theorem r_chain {r r' : R2} {tc : TE} (q : ta σ H fun x H1 => tb σ H1 fun y H2 => r x y H2 fun z H3 => ∃ k, z = .bl k ∧ (if k = true then tc σ H3 fun w' H4 => r' y w' H4 Q else Q (.bl false) H3)) : tChain r r' ta tb tc σ H Q := q
theorem r_tTru (q : ta σ H fun x H' => ∃ k, TruV K x H' k ∧ R k H') : tTru K ta σ H R := q
theorem r_truN {a : Nat} {R : Bool → Prop} (q : R (!decide (a = 0))) : ∃ k, TruV K (.int (a : Int)) H k ∧ R k := by
  refine ⟨_, rfl, ?_⟩
  have e : ((a : Int) != 0) = !decide (a = 0) := by
    by_cases h : a = 0
    · subst h; rfl
    · rw [show decide (a = 0) = false by simpa using h]
      simp only [bne, Bool.not_false, Bool.not_eq_true', beq_eq_false_iff_ne, ne_eq]
      omega
  rw [e]
  exact q
theorem r_tupl {T : Addr} {x y : V} {n : Nat} {t : TGs} {R : L2.St → Hp → Prop} (h : SqT K H T [x, y]) (hn : 2 = n) (q : t [x, y] σ H R) : gTup K n t (.ref T) σ H R := ⟨T, _, rfl, h, hn, q⟩
theorem r_gcons {g : TG} {u : TGs} {v : V} {vs : List V} {R : L2.St → Hp → Prop} (q : g v σ H fun σ' H' => u vs σ' H' R) : gCons g u (v :: vs) σ H R := ⟨v, vs, rfl, q⟩
theorem r_gnil {R : L2.St → Hp → Prop} (q : R σ H) : gNil [] σ H R := ⟨rfl, q⟩
theorem r_izip {t : TA} {R : It → Hp → Prop} (q : t σ H fun vs H1 => ∃ a b xs ys, vs = [.ref a, .ref b] ∧ SqL K H1 a xs ∧ SqL K H1 b ys ∧ R (Itz K a b) H1) : iZip K t σ H R := q
theorem r_zipAt {a b : Addr} {xs ys : List V} {R : Addr → Addr → Prop} (h1 : SqL K H a xs) (h2 : SqL K H b ys) (q : R a b) : ∃ a' b' xs ys, [V.ref a, V.ref b] = [.ref a', .ref b'] ∧ SqL K H a' xs ∧ SqL K H b' ys ∧ R a' b' := ⟨a, b, xs, ys, rfl, h1, h2, q⟩
theorem r_ixR {as : List Addr} {n : Nat} {a : Addr} (hs : SqL K H p (as.map V.ref)) (h : as[n]? = some a) (q : Q (.ref a) H) : rIxL K (.ref p) (.int (n : Int)) H Q :=
  ⟨p, _, n, _, rfl, rfl, hs, at_of rfl (by rw [List.getElem?_map, h]; rfl), q⟩
end
/-! ### walks over two lists side by side -/
section
variable {g : TG} {tb : TS} {σ : L2.St} {H : Hp} {nx : L2.St → Hp → Prop} {rt : VK} {K : PySem.W.Frag} {a b : Addr} {xs ys : List V}
theorem upd_same' {H : Hp} {T : Addr} {o : HO} (h : H T = none) : Same H (upd H T o) := fun b u e => by rw [upd_ne (ne_of_none e h)]; exact e
theorem f_zip (n : Nat) (hn : n = min xs.length ys.length) (Pv : Nat → L2.St → Hp → Prop) (h0 : Pv 0 σ H) (hl : ∀ i σ H, i ≤ n → Pv i σ H → SqL K H a xs ∧ SqL K H b ys)
    (hs : ∀ i x y σ H T, i < n → xs[i]? = some x → ys[i]? = some y → Pv i σ H → H T = none → g (.ref T) σ (upd H T (.tup [x, y])) fun σ2 H2 => tb { nx := Pv (i + 1), rt := rt, bk := nx, ct := Pv (i + 1) } σ2 H2) (hd : ∀ σ H, Pv n σ H → nx σ H) :
    ∃ W : Nat → Nat → L2.St → Hp → Prop, (∃ m, W 0 m σ H) ∧ ∀ i m σ H, W i m σ H →
      ((Itz K a b).stop i H ∧ nx σ H) ∨ ((Itz K a b).go i H ∧ ∃ N : L2.St → Hp → Prop, (∀ σ' H', N σ' H' → ∃ m', m' < m ∧ W (i + 1) m' σ' H') ∧ ∀ x H', (Itz K a b).yld i H x H' → g x σ H' fun σ2 H2 => tb { nx := N, rt := rt, bk := nx, ct := N } σ2 H2) := by
  refine ⟨fun i m σ H => m = n - i ∧ i ≤ n ∧ Pv i σ H, ⟨n, by simp, Nat.zero_le _, h0⟩, ?_⟩
  rintro i m σ H ⟨rfl, hi, p⟩
  obtain ⟨h1, h2⟩ := hl i σ H hi p
  by_cases hlt : i < n
  · have hx : xs[i]? = some xs[i] := List.getElem?_eq_getElem (by omega)
    have hy : ys[i]? = some ys[i] := List.getElem?_eq_getElem (by omega)
    refine .inr ⟨⟨xs, ys, _, _, h1, h2, hx, hy⟩, Pv (i + 1), fun σ' H' p' => ⟨n - (i + 1), by omega, rfl, hlt, p'⟩, ?_⟩
    rintro v H' ⟨T, x, y, rfl, hT, rfl, q1, q2⟩
    exact hs i x y σ H T hlt (q1 _ h1) (q2 _ h2) p hT
  · have e : i = n := by omega
    subst e
    refine .inl ⟨⟨xs, ys, h1, h2, by omega⟩, hd σ H p⟩
end
/-! ### comprehensions: numbers over two lists; lists over a range -/
section
variable {s s2 : Nat} {te : TE} {σ : L2.St} {H H0 H1 : Hp} {K : PySem.W.Frag} {a b : Addr} {Q : VK} {ls : List (Addr × HO)}
theorem wipe_two (σ : L2.St) (s t : Nat) (u v : Option V) : wipe (((wipe σ [s, t]).set s u).set t v) [s, t] = wipe σ [s, t] := by
  refine List.ext_getElem? fun i => ?_
  simp only [wipe, List.foldl_cons, List.foldl_nil, List.getElem?_set, List.length_set]
  by_cases h1 : t = i
  · subst h1
    by_cases h3 : t < σ.length
    · simp [h3]
    · simp [h3]
  · by_cases h2 : s = i
    · subst h2
      simp [h1]
    · simp [h1, h2]
theorem lc_z {xs ys : List Nat} (L : Loc H0 H1 ls) (ha : SqL K H1 a (nv xs)) (hb : SqL K H1 b (nv ys)) (hxy : xs.length = ys.length) (hz : xs.length ≤ sizeLine) (f : Nat → Nat)
    (he : ∀ (i : Nat), i < xs.length → ∀ (H : Hp) (D T : Addr) (o o' : HO) (R : VK), Loc H0 H (ls ++ [(D, o), (T, o')]) → R (.int ((f i : Nat) : Int)) H → te (((wipe σ [s, s2]).set s (some (.int ((xs.getD i 0 : Nat) : Int)))).set s2 (some (.int ((ys.getD i 0 : Nat) : Int)))) H R)
    (q : ∀ D H', Loc H0 H' (ls ++ [(D, .lst (nv ((List.range xs.length).map f)))]) → Q (.ref D) H') : LcGo (Itz K a b) (gTup K 2 (gCons (gName s) (gCons (gName s2) gNil))) tYes te [s, s2] σ H1 Q := by
  intro D hD
  have M0 : Loc H1 (upd H1 D (.lst (nv ((List.range 0).map f)))) [(D, .lst (nv ((List.range 0).map f)))] := Loc.one hD
  refine ⟨fun i m H => m = xs.length - i ∧ i ≤ xs.length ∧ Loc H1 H [(D, .lst (nv ((List.range i).map f)))], ⟨xs.length, by simp, Nat.zero_le _, M0⟩, ?_⟩
  rintro i m H ⟨rfl, hi, M⟩
  have h1 := M.arg ha
  have h2 := M.arg hb
  by_cases hlt : i < xs.length
  · refine .inr ⟨⟨_, _, _, _, h1, h2, nv_get hlt, nv_get (by omega)⟩, fun H' => Loc H1 H' [(D, .lst (nv ((List.range (i + 1)).map f)))], fun H' M' => ⟨xs.length - (i + 1), by omega, rfl, hlt, M'⟩, ?_⟩
    rintro v H' ⟨T, x, y, rfl, hT, rfl, q1, q2⟩
    obtain ⟨_, rfl⟩ := nv_of_get (q1 _ h1)
    obtain ⟨_, rfl⟩ := nv_of_get (q2 _ h2)
    have M1 := M.new (o := .tup [V.int ((xs.getD i 0 : Nat) : Int), V.int ((ys.getD i 0 : Nat) : Int)]) hT
    refine ⟨T, _, rfl, .inl (.inl (M1.get 1 rfl)), rfl, _, _, rfl, _, _, rfl, rfl, ?_⟩
    refine ⟨wipe_two σ s s2 _ _, ?_⟩
    show te _ _ _
    refine he i hlt _ D T _ _ _ (L.calls M1) ⟨_, M1.get 0 rfl, ?_, ?_⟩
    · rw [nv_len, List.length_map, List.length_range]; omega
    · have := M1.put (o' := .lst (nv ((List.range i).map f) ++ [.int ((f i : Nat) : Int)])) 0 rfl
      rw [nv_snoc] at this
      rw [List.range_succ, List.map_append]
      rw [nv_snoc]
      exact this.take 1
  · have e : i = xs.length := by omega
    subst e
    exact .inl ⟨⟨_, _, h1, h2, .inl (by rw [nv_len]; exact Nat.le_refl _)⟩, q D H (L.calls M)⟩
/-- numbers, worked out by calls -/
theorem lc_turnC {n : Nat} {f : Nat → Nat} {J : It} (L : Loc H0 H1 ls) (hz : n ≤ sizeLine) (xv : Nat → V)
    (hgo : ∀ (i : Nat) (H : Hp), i < n → Same H1 H → J.go i H) (hstop : ∀ (H : Hp), Same H1 H → J.stop n H) (hy : ∀ (i : Nat) (H H' : Hp) (x : V), i < n → Same H1 H → J.yld i H x H' → H' = H ∧ x = xv i)
    (he : ∀ (i : Nat), i < n → ∀ (H : Hp) (R : VK), Same H1 H → (∀ H' ms, Loc H H' ms → R (.int ((f i : Nat) : Int)) H') → te ((σ.set s none).set s (some (xv i))) H R)
    (q : ∀ D H', Loc H0 H' (ls ++ [(D, .lst (nv ((List.range n).map f)))]) → Q (.ref D) H') : LcGo J (gName s) tYes te [s] σ H1 Q := by
  intro D hD
  have M0 : Loc H1 (upd H1 D (.lst (nv ((List.range 0).map f)))) [(D, .lst (nv ((List.range 0).map f)))] := Loc.one hD
  refine ⟨fun i m H => m = n - i ∧ i ≤ n ∧ Loc H1 H [(D, .lst (nv ((List.range i).map f)))], ⟨n, by simp, Nat.zero_le _, M0⟩, ?_⟩
  rintro i m H ⟨rfl, hi, M⟩
  by_cases hlt : i < n
  · refine .inr ⟨hgo i H hlt M.same, fun H' => Loc H1 H' [(D, .lst (nv ((List.range (i + 1)).map f)))], fun H' M' => ⟨n - (i + 1), by omega, rfl, hlt, M'⟩, fun x H' y => ?_⟩
    obtain ⟨rfl, rfl⟩ := hy i H H' x hlt M.same y
    refine ⟨wipe_self σ s _, ?_⟩
    show te _ _ _
    refine he i hlt _ _ M.same fun H2 ms M2 => ?_
    have M3 := M.calls M2
    refine ⟨_, M3.get 0 rfl, ?_, ?_⟩
    · rw [nv_len, List.length_map, List.length_range]; omega
    · have := M3.put (o' := .lst (nv ((List.range i).map f) ++ [.int ((f i : Nat) : Int)])) 0 rfl
      rw [nv_snoc] at this
      rw [List.range_succ, List.map_append]
      rw [nv_snoc]
      exact this.take 1
  · have e : i = n := by omega
    subst e
    exact .inl ⟨hstop H M.same, q D H (L.calls M)⟩
theorem lc_rC {n : Nat} {lo : Int} (L : Loc H0 H1 ls) (hz : n ≤ sizeLine) (f : Nat → Nat)
    (he : ∀ (i : Nat), i < n → ∀ (H : Hp) (R : VK), Same H1 H → (∀ H' ms, Loc H H' ms → R (.int ((f i : Nat) : Int)) H') → te ((σ.set s none).set s (some (.int (lo + i)))) H R)
    (q : ∀ D H', Loc H0 H' (ls ++ [(D, .lst (nv ((List.range n).map f)))]) → Q (.ref D) H') : LcGo (Itr lo n) (gName s) tYes te [s] σ H1 Q :=
  lc_turnC L hz (fun i => .int (lo + i)) (fun i H hi _ => hi) (fun H _ => Nat.le_refl n) (fun i H H' x hi _ y => ⟨y.1, y.2⟩) he q
theorem lc_rCC {n : Nat} {lo c : Int} (L : Loc H0 H1 ls) (hz : n ≤ sizeLine) (f : Nat → Nat)
    (he : ∀ (i : Nat), i < n → ∀ (H : Hp) (R : VK), Same H1 H → (∀ H' ms, Loc H H' ms → R (.int ((f i : Nat) : Int)) H') → te ((σ.set s none).set s (some (.int (lo + (i : Nat) * c)))) H R)
    (q : ∀ D H', Loc H0 H' (ls ++ [(D, .lst (nv ((List.range n).map f)))]) → Q (.ref D) H') : LcGo (Itc lo c n) (gName s) tYes te [s] σ H1 Q :=
  lc_turnC L hz (fun i => .int (lo + (i : Nat) * c)) (fun i H hi _ => hi) (fun H _ => Nat.le_refl n) (fun i H H' x hi _ y => ⟨y.1, y.2⟩) he q
/-! ### rows: a list of lists of numbers -/
def rowO (as : List Addr) (rows : List (List Nat)) : List (Addr × HO) := List.zipWith (fun a r => (a, HO.lst (nv r))) as rows
def refs (as : List Addr) : List V := as.map V.ref
theorem refs_len (as : List Addr) : (refs as).length = as.length := by simp [refs]
theorem refs_app (as bs : List Addr) : refs as ++ refs bs = refs (as ++ bs) := by simp [refs]
theorem rowO_snoc {as : List Addr} {rows : List (List Nat)} {a : Addr} {r : List Nat} (h : as.length = rows.length) : rowO (as ++ [a]) (rows ++ [r]) = rowO as rows ++ [(a, .lst (nv r))] := by
  unfold rowO
  rw [List.zipWith_append h]
  rfl
structure Rows (K : PySem.W.Frag) (H : Hp) (p : Addr) (as : List Addr) (rows : List (List Nat)) : Prop where
  lst : SqL K H p (refs as)
  len : as.length = rows.length
  at_ : ∀ (i : Nat) (a : Addr) (r : List Nat), as[i]? = some a → rows[i]? = some r → H a = some (.lst (nv r))
theorem Rows.mono {H H' : Hp} {p : Addr} {as : List Addr} {rows : List (List Nat)} (h : Rows K H p as rows) (e : Same H H') : Rows K H' p as rows :=
  ⟨e.seq h.lst, h.len, fun i a r h1 h2 => e _ _ (h.at_ i a r h1 h2)⟩
theorem rowO_at {as : List Addr} {rows : List (List Nat)} {i : Nat} {a : Addr} {r : List Nat} (h1 : as[i]? = some a) (h2 : rows[i]? = some r) : (rowO as rows)[i]? = some (a, .lst (nv r)) := by
  unfold rowO
  rw [List.getElem?_zipWith, h1, h2]
theorem Loc.rows {H0 H : Hp} {ls : List (Addr × HO)} {p : Addr} {as : List Addr} {rows : List (List Nat)} (L : Loc H0 H ls) (h : SqL K H p (refs as)) (hl : as.length = rows.length) (hm : ∀ x ∈ rowO as rows, x ∈ ls) : Rows K H p as rows :=
  ⟨h, hl, fun i a r h1 h2 => (L.at_ (a, .lst (nv r)) (hm _ (List.mem_of_getElem? (rowO_at h1 h2)))).2⟩
theorem lc_rows {n : Nat} {row : Nat → List Nat} {J : It} (L : Loc H0 H1 ls) (hz : n ≤ sizeLine) (xv : Nat → V)
    (hgo : ∀ (i : Nat) (H : Hp), i < n → Same H1 H → J.go i H) (hstop : ∀ (H : Hp), Same H1 H → J.stop n H) (hy : ∀ (i : Nat) (H H' : Hp) (x : V), i < n → Same H1 H → J.yld i H x H' → H' = H ∧ x = xv i)
    (he : ∀ (i : Nat), i < n → ∀ (H : Hp) (R : VK), Same H1 H → (∀ p H', Loc H H' [(p, .lst (nv (row i)))] → R (.ref p) H') → te ((σ.set s none).set s (some (xv i))) H R)
    (q : ∀ D as H', as.length = n → Loc H0 H' (ls ++ (D, .lst (refs as)) :: rowO as ((List.range n).map row)) → Q (.ref D) H') : LcGo J (gName s) tYes te [s] σ H1 Q := by
  intro D hD
  refine ⟨fun i m H => m = n - i ∧ i ≤ n ∧ ∃ as, as.length = i ∧ Loc H1 H ((D, .lst (refs as)) :: rowO as ((List.range i).map row)), ⟨n, by simp, Nat.zero_le _, [], rfl, Loc.one hD⟩, ?_⟩
  rintro i m H ⟨rfl, hi, as, hl, M⟩
  by_cases hlt : i < n
  · refine .inr ⟨hgo i H hlt M.same, fun H' => ∃ as, as.length = i + 1 ∧ Loc H1 H' ((D, .lst (refs as)) :: rowO as ((List.range (i + 1)).map row)), fun H' M' => ⟨n - (i + 1), by omega, rfl, hlt, M'⟩, fun x H' y => ?_⟩
    obtain ⟨rfl, rfl⟩ := hy i H H' x hlt M.same y
    refine ⟨wipe_self σ s _, ?_⟩
    show te _ _ _
    refine he i hlt _ _ M.same fun p H2 M2 => ?_
    have M3 := M.calls M2
    refine ⟨_, M3.get 0 rfl, by rw [refs_len]; omega, as ++ [p], by simp [hl], ?_⟩
    have := M3.put (o' := .lst (refs as ++ [V.ref p])) 0 rfl
    rw [List.range_succ, List.map_append, List.map_cons, List.map_nil, rowO_snoc (by simp [hl]), show refs (as ++ [p]) = refs as ++ [V.ref p] by simp [refs]]
    exact this
  · have e : i = n := by omega
    subst e
    exact .inl ⟨hstop H M.same, q D as H hl (L.calls M)⟩
theorem lc_rowsR {n : Nat} {lo : Int} (L : Loc H0 H1 ls) (hz : n ≤ sizeLine) (row : Nat → List Nat)
    (he : ∀ (i : Nat), i < n → ∀ (H : Hp) (R : VK), Same H1 H → (∀ p H', Loc H H' [(p, .lst (nv (row i)))] → R (.ref p) H') → te ((σ.set s none).set s (some (.int (lo + i)))) H R)
    (q : ∀ D as H', as.length = n → Loc H0 H' (ls ++ (D, .lst (refs as)) :: rowO as ((List.range n).map row)) → Q (.ref D) H') : LcGo (Itr lo n) (gName s) tYes te [s] σ H1 Q :=
  lc_rows L hz (fun i => .int (lo + i)) (fun i H hi _ => hi) (fun H _ => Nat.le_refl n) (fun i H H' x hi _ y => ⟨y.1, y.2⟩) he q
theorem r_index {xs : List Nat} {n : Nat} (j : Nat) (hs : SqL K H a (nv xs)) (hj : j < xs.length) (e : xs.getD j 0 = n) (hno : ∀ m, m < j → xs.getD m 0 ≠ n) (q : Q (.int (j : Int)) H) : rIndex K (.ref a) [.int (n : Int)] H Q := by
  refine ⟨a, nv xs, .int (n : Int), j, _, rfl, rfl, hs, rfl, ?_, nv_get hj, ?_, ?_, q⟩
  · rw [List.all_eq_true]
    intro x hx
    unfold nv at hx
    obtain ⟨y, _, rfl⟩ := List.mem_map.mp hx
    rfl
  · rw [e]
    show ((n : Int) == (n : Int)) = true
    exact beq_self_eq_true _
  · intro m z hm hz
    obtain ⟨_, rfl⟩ := nv_of_get hz
    show (((xs.getD m 0 : Nat) : Int) == (n : Int)) = false
    rw [beq_eq_false_iff_ne]
    intro e
    exact hno m hm (Int.ofNat.inj e)
end
end My
end
section
set_option Elab.async false
set_option linter.all false
set_option maxRecDepth 100000
set_option maxHeartbeats 2000000
namespace My
open PySem PySem.Spec PyProof.Rows L2
/-! ### lists of numbers compared -/
theorem op_eqDK {X : Cx} {K : PySem.W.Frag} (h : X.K = K) (hu : X.A.units + 64 < cLine) : OpR X (compareOp .Eq) (rEqD K) := h ▸ op_eqD hu
theorem op_neDK {X : Cx} {K : PySem.W.Frag} (h : X.K = K) (hu : X.A.units + 64 < cLine) : OpR X (compareOp .NotEq) (rNeD K) := h ▸ op_neD hu
def dts (xs : List Nat) : List PyData := xs.map fun (n : Nat) => PyData.int (n : Int)
theorem dp_nv {K : PySem.W.Frag} {H : Hp} : ∀ xs : List Nat, DpAll K H (nv xs) (dts xs)
  | [] => .nil
  | x :: xs => .cons (.int _) (dp_nv xs)
theorem can_dts : ∀ xs : List Nat, PyData.canLayAll0 (dts xs) = true
  | [] => by simp [dts, PyData.canLayAll0]
  | x :: xs => by
    show PyData.canLayAll0 (PyData.int (x : Int) :: dts xs) = true
    rw [PyData.canLayAll0, can_dts xs]
    simp [PyData.canLay0]
theorem depth_dts : ∀ xs : List Nat, PyData.depthAll (dts xs) ≤ 1
  | [] => by simp [dts, PyData.depthAll]
  | x :: xs => by
    have := depth_dts xs
    show PyData.depthAll (PyData.int (x : Int) :: dts xs) ≤ 1
    simp only [PyData.depthAll, PyData.depth]
    omega
theorem shaped_dts (xs : List Nat) : SeqAt.shaped (.list (dts xs)) = true := by
  unfold SeqAt.shaped
  rw [Bool.and_eq_true]
  refine ⟨by rw [PyData.canLay0]; exact can_dts xs, ?_⟩
  have := depth_dts xs
  rw [decide_eq_true_iff]
  simp only [PyData.depth]
  omega
theorem eqv_dts : ∀ xs ys : List Nat, PyData.eqvAll (dts xs) (dts ys) = decide (xs = ys)
  | [], [] => by simp [dts, PyData.eqvAll]
  | [], y :: ys => by simp [dts, PyData.eqvAll]
  | x :: xs, [] => by simp [dts, PyData.eqvAll]
  | x :: xs, y :: ys => by
    show PyData.eqvAll (PyData.int (x : Int) :: dts xs) (PyData.int (y : Int) :: dts ys) = _
    rw [PyData.eqvAll, eqv_dts xs ys]
    simp only [PyData.eqv]
    rw [Bool.eq_iff_iff]
    simp [Int.ofNat_inj]
section
variable {H : Hp} {Q : VK} {K : PySem.W.Frag} {a b : Addr} {xs ys : List Nat}
theorem r_neL (h1 : SqL K H a (nv xs)) (h2 : SqL K H b (nv ys)) (q : Q (.bl (!decide (xs = ys))) H) : rNeD K (.ref a) (.ref b) H Q := by
  refine ⟨_, _, .lst h1 (dp_nv xs), .lst h2 (dp_nv ys), shaped_dts xs, shaped_dts ys, ?_⟩
  rw [show PyData.eqv (.list (dts xs)) (.list (dts ys)) = PyData.eqvAll (dts xs) (dts ys) by simp only [PyData.eqv], eqv_dts]
  exact q
theorem r_eqL (h1 : SqL K H a (nv xs)) (h2 : SqL K H b (nv ys)) (q : Q (.bl (decide (xs = ys))) H) : rEqD K (.ref a) (.ref b) H Q := by
  refine ⟨_, _, .lst h1 (dp_nv xs), .lst h2 (dp_nv ys), shaped_dts xs, shaped_dts ys, ?_⟩
  rw [show PyData.eqv (.list (dts xs)) (.list (dts ys)) = PyData.eqvAll (dts xs) (dts ys) by simp only [PyData.eqv], eqv_dts]
  exact q
theorem r_isN {v : V} (q : Q (.bl (decide (v = .non))) H) : (fun x y H Q => y = V.non ∧ Q (.bl (decide (x = .non))) H : R2) v .non H Q := ⟨rfl, q⟩
theorem r_notN {v : V} (q : Q (.bl (!decide (v = .non))) H) : (fun x y H Q => y = V.non ∧ Q (.bl (!decide (x = .non))) H : R2) v .non H Q := ⟨rfl, q⟩
end
/-! ### comprehensions with a test -/
section
variable {s : Nat} {te : TE} {tt : TT} {σ : L2.St} {H H0 H1 : Hp} {K : PySem.W.Frag} {a : Addr} {Q : VK} {ls : List (Addr × HO)}
theorem lc_f {n : Nat} {f : Nat → Nat} {cnd : Nat → Bool} {J : It} (L : Loc H0 H1 ls) (hz : n ≤ sizeLine) (xv : Nat → V)
    (hgo : ∀ (i : Nat) (H : Hp), i < n → Same H1 H → J.go i H) (hstop : ∀ (H : Hp), Same H1 H → J.stop n H) (hy : ∀ (i : Nat) (H H' : Hp) (x : V), i < n → Same H1 H → J.yld i H x H' → H' = H ∧ x = xv i)
    (ht : ∀ (i : Nat), i < n → ∀ (H : Hp) (D : Addr) (o : HO) (R : Bool → Hp → Prop), Loc H0 H (ls ++ [(D, o)]) → R (cnd i) H → tt ((σ.set s none).set s (some (xv i))) H R)
    (he : ∀ (i : Nat), i < n → ∀ (H : Hp) (D : Addr) (o : HO) (R : VK), Loc H0 H (ls ++ [(D, o)]) → R (.int ((f i : Nat) : Int)) H → te ((σ.set s none).set s (some (xv i))) H R)
    (q : ∀ D H', Loc H0 H' (ls ++ [(D, .lst (nv (((List.range n).filter cnd).map f)))]) → Q (.ref D) H') : LcGo J (gName s) tt te [s] σ H1 Q := by
  intro D hD
  have M0 : Loc H1 (upd H1 D (.lst (nv (((List.range 0).filter cnd).map f)))) [(D, .lst (nv (((List.range 0).filter cnd).map f)))] := Loc.one hD
  refine ⟨fun i m H => m = n - i ∧ i ≤ n ∧ Loc H1 H [(D, .lst (nv (((List.range i).filter cnd).map f)))], ⟨n, by simp, Nat.zero_le _, M0⟩, ?_⟩
  rintro i m H ⟨rfl, hi, M⟩
  by_cases hlt : i < n
  · refine .inr ⟨hgo i H hlt M.same, fun H' => Loc H1 H' [(D, .lst (nv (((List.range (i + 1)).filter cnd).map f)))], fun H' M' => ⟨n - (i + 1), by omega, rfl, hlt, M'⟩, fun x H' y => ?_⟩
    obtain ⟨rfl, rfl⟩ := hy i H H' x hlt M.same y
    refine ⟨wipe_self σ s _, ?_⟩
    refine ht i hlt _ D _ _ (L.calls M) ?_
    rw [List.range_succ, List.filter_append, List.map_append]
    cases e : cnd i with
    | true =>
      refine ite_tt ?_
      refine he i hlt _ D _ _ (L.calls M) ⟨_, M.get 0 rfl, ?_, ?_⟩
      · rw [nv_len, List.length_map]
        have := List.length_filter_le cnd (List.range i)
        rw [List.length_range] at this
        omega
      · have := M.put (o' := .lst (nv (((List.range i).filter cnd).map f) ++ [.int ((f i : Nat) : Int)])) 0 rfl
        rw [nv_snoc] at this
        rw [nv_snoc]
        rw [show [i].filter cnd = [i] by simp [e]]
        exact this
    | false =>
      refine ite_ff ?_
      rw [show [i].filter cnd = [] by simp [e], List.map_nil, List.append_nil]
      exact M
  · have e : i = n := by omega
    subst e
    exact .inl ⟨hstop H M.same, q D H (L.calls M)⟩
theorem lc_fl {xs : List Nat} (L : Loc H0 H1 ls) (hs : SqL K H1 a (nv xs)) (hz : xs.length ≤ sizeLine) (cnd : Nat → Bool)
    (ht : ∀ (i : Nat), i < xs.length → ∀ (H : Hp) (D : Addr) (o : HO) (R : Bool → Hp → Prop), Loc H0 H (ls ++ [(D, o)]) → R (cnd (xs.getD i 0)) H → tt ((σ.set s none).set s (some (.int ((xs.getD i 0 : Nat) : Int)))) H R)
    (he : ∀ (i : Nat), i < xs.length → ∀ (H : Hp) (D : Addr) (o : HO) (R : VK), Loc H0 H (ls ++ [(D, o)]) → R (.int ((xs.getD i 0 : Nat) : Int)) H → te ((σ.set s none).set s (some (.int ((xs.getD i 0 : Nat) : Int)))) H R)
    (q : ∀ D H', Loc H0 H' (ls ++ [(D, .lst (nv (xs.filter cnd)))]) → Q (.ref D) H') : LcGo (Itl K a) (gName s) tt te [s] σ H1 Q := by
  refine lc_f (f := fun i => xs.getD i 0) (cnd := fun i => cnd (xs.getD i 0)) L hz (fun i => .int ((xs.getD i 0 : Nat) : Int)) (fun i H hi sm => ⟨_, _, sm.seq hs, nv_get hi⟩) (fun H sm => ⟨_, sm.seq hs, by rw [nv_len]; exact Nat.le_refl _⟩)
    (fun i H H' x hi sm y => ⟨y.1, (nv_of_get (y.2 _ (sm.seq hs))).2⟩) ht he ?_
  have e : ((List.range xs.length).filter fun i => cnd (xs.getD i 0)).map (fun i => xs.getD i 0) = xs.filter cnd := by
    have h1 := range_map_get xs id
    have h2 : xs.filter cnd = ((List.range xs.length).map fun i => xs.getD i 0).filter cnd := by rw [show ((List.range xs.length).map fun i => xs.getD i 0) = xs by simpa using h1]
    rw [h2, List.filter_map]
    rfl
  rw [e]
  exact q
theorem lc_fr {n : Nat} (L : Loc H0 H1 ls) (hz : n ≤ sizeLine) (cnd : Nat → Bool)
    (ht : ∀ (i : Nat), i < n → ∀ (H : Hp) (D : Addr) (o : HO) (R : Bool → Hp → Prop), Loc H0 H (ls ++ [(D, o)]) → R (cnd i) H → tt ((σ.set s none).set s (some (.int (i : Int)))) H R)
    (he : ∀ (i : Nat), i < n → ∀ (H : Hp) (D : Addr) (o : HO) (R : VK), Loc H0 H (ls ++ [(D, o)]) → R (.int (i : Int)) H → te ((σ.set s none).set s (some (.int (i : Int)))) H R)
    (q : ∀ D H', Loc H0 H' (ls ++ [(D, .lst (nv ((List.range n).filter cnd)))]) → Q (.ref D) H') : LcGo (Itr 0 n) (gName s) tt te [s] σ H1 Q := by
  refine lc_f (f := fun i => i) (cnd := cnd) L hz (fun i => .int (i : Int)) (fun i H hi _ => hi) (fun H _ => Nat.le_refl n) (fun i H H' x hi _ y => ⟨y.1, by rw [y.2, Int.zero_add]⟩) ht he ?_
  rw [show (((List.range n).filter cnd).map fun i => i) = (List.range n).filter cnd by simp]
  exact q
theorem r_inL {xs : List Nat} {z : Nat} (hs : SqL K H a (nv xs)) (q : Q (.bl (decide (z ∈ xs))) H) : rIn K false (.int (z : Int)) (.ref a) H Q := by
  refine ⟨a, _, rfl, .inl hs, rfl, ?_, ?_⟩
  · rw [List.all_eq_true]
    intro x hx
    unfold nv at hx
    obtain ⟨y, _, rfl⟩ := List.mem_map.mp hx
    rfl
  · have e : inV (.int (z : Int)) (nv xs) = decide (z ∈ xs) := by
      clear q hs
      induction xs with
      | nil => rfl
      | cons y ys ih =>
        show (((y : Int) == (z : Int)) || inV (.int (z : Int)) (nv ys)) = _
        rw [ih]
        by_cases h : z = y
        · subst h; simp
        · have : ((y : Int) == (z : Int)) = false := by rw [beq_eq_false_iff_ne]; omega
          rw [this]
          simp [h]
    rw [e]
    exact q
theorem r_popAt {xs : List Nat} {p : Addr} {x : Nat} {rest : List Nat} (L : Loc H0 H ls) (j : Nat) (hj : ls[j]? = some (p, .lst (nv xs))) (hx : xs = x :: rest) (q : ∀ H', Loc H0 H' (ls.set j (p, .lst (nv rest))) → Q (.int (x : Int)) H') : rPopAt (.ref p) [.int ((0 : Nat) : Int)] H Q := by
  subst hx
  exact ⟨p, _, _, 0, .int (x : Int), rfl, rfl, L.get j hj, by decide, by decide, by simp [seqIndex?, nv_len], rfl, q _ (L.put j hj)⟩
end
end My
end
section
set_option Elab.async false
set_option linter.all false
set_option maxRecDepth 100000
set_option maxHeartbeats 2000000
namespace My
open PySem PySem.Spec PyProof.Rows L2
local macro_rules | `(tactic| walk_at "sq") => `(tactic| first
  | assumption
  | (apply Loc.lst (j := 0) <;> first | assumption | exact rfl)
  | (apply Loc.lst (j := 1) <;> first | assumption | exact rfl)
  | (apply Loc.lst (j := 2) <;> first | assumption | exact rfl)
  | (apply Loc.lst (j := 3) <;> first | assumption | exact rfl)
  | (apply Loc.lst (j := 4) <;> first | assumption | exact rfl)
  | (apply Loc.arg <;> assumption))
local macro_rules | `(tactic| walk_at "hp") => `(tactic| first
  | assumption
  | (apply Loc.get (j := 0) <;> first | assumption | exact rfl)
  | (apply Loc.get (j := 1) <;> first | assumption | exact rfl)
  | (apply Loc.get (j := 2) <;> first | assumption | exact rfl)
  | (apply Loc.get (j := 3) <;> first | assumption | exact rfl)
  | (apply Loc.get (j := 4) <;> first | assumption | exact rfl))
local macro_rules | `(tactic| walk_at "bd") => `(tactic| first
  | omega
  | decide
  | (simp only [nv_len, List.length_append, List.length_cons, List.length_nil, List.length_set, List.length_take, List.length_drop] <;> omega)
  | (simp only [sizeLine_eq, nv_len, List.length_append, List.length_cons, List.length_nil, List.length_set, List.length_take, List.length_drop] <;> omega))
local macro_rules | `(tactic| walk_at "bdW") => `(tactic| first | exact Nat.lt_of_lt_of_le (by first | assumption | omega) (by decide +kernel) | assumption)
local macro_rules | `(tactic| walk_at "lk") => `(tactic| rfl)
local macro_rules | `(tactic| walk_at "lt1000") => `(tactic| exact of_decide_eq_true (by rfl))
local macro_rules | `(tactic| walk_at "fp") => `(tactic| first
  | ((with_reducible apply r_putF (j := 0)); (assumption); (exact rfl); (assumption); (assumption); (walk_at "lt1000"))
  | ((with_reducible apply r_putF (j := 1)); (assumption); (exact rfl); (assumption); (assumption); (walk_at "lt1000"))
  | ((with_reducible apply r_putF (j := 2)); (assumption); (exact rfl); (assumption); (assumption); (walk_at "lt1000")))
local macro_rules | `(tactic| walk_at "app1") => `(tactic| first
  | ((with_reducible apply r_append (j := 0)); (assumption); (exact rfl); (walk_at "bd"))
  | ((with_reducible apply r_append (j := 1)); (assumption); (exact rfl); (walk_at "bd"))
  | ((with_reducible apply r_append (j := 2)); (assumption); (exact rfl); (walk_at "bd"))
  | ((with_reducible apply r_append (j := 3)); (assumption); (exact rfl); (walk_at "bd")))
local macro_rules | `(tactic| walk_at "step") => `(tactic| first
  | ((with_reducible apply r_var); exact rfl)
  | with_reducible apply r_c0
  | with_reducible apply r_cN
  | with_reducible apply r_c
  | with_reducible apply r_op
  | with_reducible apply r_fld
  | ((with_reducible apply r_getF); (walk_at "hp"); (assumption); (assumption); (walk_at "lk"))
  | with_reducible apply s_fld
  | with_reducible apply r_meth
  | ((with_reducible apply r_atM); (walk_at "hp"); (walk_at "lk"))
  | with_reducible apply r_make
  | with_reducible apply r_tB
  | with_reducible apply r_tNot
  | with_reducible apply r_tOr
  | with_reducible apply r_andV
  | with_reducible apply r_chain
  | with_reducible apply r_tTru
  | with_reducible apply r_truN
  | with_reducible apply r_shrN
  | ((with_reducible apply r_shlW); (walk_at "bd"); (walk_at "bdW"))
  | with_reducible apply r_andN
  | with_reducible apply r_orN
  | ((with_reducible apply r_subN); (walk_at "bd"))
  | with_reducible apply r_le
  | with_reducible apply r_gt
  | with_reducible apply r_ge
  | with_reducible apply r_gcons
  | with_reducible apply r_gnil
  | with_reducible apply r_izip
  | ((with_reducible apply r_zipAt); (walk_at "sq"); (walk_at "sq"))
  | with_reducible apply r_un
  | with_reducible apply r_xor
  | with_reducible apply r_addN
  | with_reducible apply r_lt
  | with_reducible apply r_eqN
  | with_reducible apply r_neN
  | ((with_reducible apply r_fdivN); (walk_at "bd"); (walk_at "bd"))
  | ((with_reducible apply r_modN); (walk_at "bd"))
  | ((with_reducible apply r_mulN); (walk_at "bd"))
  | ((with_reducible apply r_shlN); (walk_at "bd"); (walk_at "bd"))
  | with_reducible apply r_i2
  | with_reducible apply r_i1
  | with_reducible apply r_test
  | with_reducible apply r_bl
  | with_reducible apply r_and
  | ((with_reducible apply r_ixN); (walk_at "sq"); (walk_at "bd"))
  | ((with_reducible apply r_ix); (walk_at "sq"); (walk_at "bd"); (walk_at "bd"))
  | ((with_reducible apply r_ixT); (solve_by_elim); (walk_at "bd"))
  | with_reducible apply r_bm
  | ((with_reducible apply r_tyL); (walk_at "sq"))
  | with_reducible apply r_cons
  | with_reducible apply r_nil
  | with_reducible apply r_lst
  | with_reducible apply r_sl
  | with_reducible apply r_noPart
  | with_reducible apply r_part
  | with_reducible apply r_exInt
  | with_reducible apply r_cb
  | with_reducible apply r_call
  | ((with_reducible apply r_lenN); (walk_at "sq"))
  | ((with_reducible apply r_len); (walk_at "sq"))
  | with_reducible apply r_ifE
  | with_reducible apply s_seq
  | with_reducible apply s_asg
  | with_reducible apply s_name
  | with_reducible apply s_ret
  | with_reducible apply s_drop
  | with_reducible apply s_if
  | with_reducible apply s_next
  | with_reducible apply s_sub
  | with_reducible apply s_for
  | with_reducible apply r_rng3
  | with_reducible apply r_rng2
  | with_reducible apply r_rng1
  | with_reducible apply r_ilist
  | with_reducible apply r_ituple
  | with_reducible apply r_lc
  | ((with_reducible apply r_isq); (walk_at "sq"))
  | ((with_reducible apply r_ist); (solve_by_elim))
  | dsimp only [List.set_cons_zero, List.set_cons_succ])
local macro_rules | `(tactic| walk_at "go") => `(tactic| repeat walk_at "step")
local macro_rules | `(tactic| walk_at "b256") => `(tactic| (repeat (first | assumption | apply xor256 | apply twice_lt | apply Bytes.at_)))
local macro_rules | `(tactic| walk_at "app") => `(tactic| (walk_at "go"; walk_at "app1"; intro H' L'; simp only [nv_snoc, List.set_cons_zero, List.set_cons_succ] at L'; try walk_at "go"))
local macro_rules | `(tactic| walk_at "init") => `(tactic| (dsimp only [cxOf, L2.start, List.map, List.map_cons, List.map_nil, List.length_cons, List.length_nil, List.cons_append, List.nil_append, Nat.zero_add, Nat.reduceAdd, Nat.reduceSub, List.replicate_succ, List.replicate_zero]; walk_at "go"))
local macro_rules | `(tactic| walk_at "new") => `(tactic| (apply r_new; (assumption); (walk_at "bd"); intro p' H' L'; simp only [List.nil_append, List.cons_append] at L'))
local macro_rules | `(tactic| walk_at "subl") => `(tactic| (repeat (first | exact List.nil_sublist _ | apply List.Sublist.cons_cons | apply List.Sublist.cons)))
local macro_rules | `(tactic| walk_at "seti") => `(tactic| first
  | ((with_reducible apply r_setL (j := 0)); (assumption); (exact rfl); (walk_at "bd"))
  | ((with_reducible apply r_setL (j := 1)); (assumption); (exact rfl); (walk_at "bd"))
  | ((with_reducible apply r_setL (j := 2)); (assumption); (exact rfl); (walk_at "bd"))
  | ((with_reducible apply r_setL (j := 3)); (assumption); (exact rfl); (walk_at "bd")))

def top (i : Nat) : Stmt := PySem.Challenge.pw_sealedrowsdesk_s08_mend.main.body.getD i (.Pass ⟨0, 0, 0, 0⟩)
structure Adr where
  none_ : Addr
structure Txt (K : PySem.W.Frag) (mg : Str → Option Value) (ad : Adr) : Prop where
  g_MOST_SHARES : ∃ t, mg "MOST_SHARES" = some (.int 32 t)
  n_range : mg "range" = none
  n_len : mg "len" = none
  n_list : mg "list" = none
  n_zip : mg "zip" = none

end My
end
section
set_option Elab.async false
set_option linter.all false
set_option maxRecDepth 100000
set_option maxHeartbeats 2000000
namespace My
open PySem PySem.Spec PyProof.Rows L2
local macro_rules | `(tactic| walk_at "sq") => `(tactic| first
  | assumption
  | (apply Loc.lst (j := 0) <;> first | assumption | exact rfl)
  | (apply Loc.lst (j := 1) <;> first | assumption | exact rfl)
  | (apply Loc.lst (j := 2) <;> first | assumption | exact rfl)
  | (apply Loc.lst (j := 3) <;> first | assumption | exact rfl)
  | (apply Loc.lst (j := 4) <;> first | assumption | exact rfl)
  | (apply Loc.arg <;> assumption))
local macro_rules | `(tactic| walk_at "hp") => `(tactic| first
  | assumption
  | (apply Loc.get (j := 0) <;> first | assumption | exact rfl)
  | (apply Loc.get (j := 1) <;> first | assumption | exact rfl)
  | (apply Loc.get (j := 2) <;> first | assumption | exact rfl)
  | (apply Loc.get (j := 3) <;> first | assumption | exact rfl)
  | (apply Loc.get (j := 4) <;> first | assumption | exact rfl))
local macro_rules | `(tactic| walk_at "bd") => `(tactic| first
  | omega
  | decide
  | (simp only [nv_len, List.length_append, List.length_cons, List.length_nil, List.length_set, List.length_take, List.length_drop] <;> omega)
  | (simp only [sizeLine_eq, nv_len, List.length_append, List.length_cons, List.length_nil, List.length_set, List.length_take, List.length_drop] <;> omega))
local macro_rules | `(tactic| walk_at "bdW") => `(tactic| first | exact Nat.lt_of_lt_of_le (by first | assumption | omega) (by decide +kernel) | assumption)
local macro_rules | `(tactic| walk_at "lk") => `(tactic| rfl)
local macro_rules | `(tactic| walk_at "lt1000") => `(tactic| exact of_decide_eq_true (by rfl))
local macro_rules | `(tactic| walk_at "fp") => `(tactic| first
  | ((with_reducible apply r_putF (j := 0)); (assumption); (exact rfl); (assumption); (assumption); (walk_at "lt1000"))
  | ((with_reducible apply r_putF (j := 1)); (assumption); (exact rfl); (assumption); (assumption); (walk_at "lt1000"))
  | ((with_reducible apply r_putF (j := 2)); (assumption); (exact rfl); (assumption); (assumption); (walk_at "lt1000")))
local macro_rules | `(tactic| walk_at "app1") => `(tactic| first
  | ((with_reducible apply r_append (j := 0)); (assumption); (exact rfl); (walk_at "bd"))
  | ((with_reducible apply r_append (j := 1)); (assumption); (exact rfl); (walk_at "bd"))
  | ((with_reducible apply r_append (j := 2)); (assumption); (exact rfl); (walk_at "bd"))
  | ((with_reducible apply r_append (j := 3)); (assumption); (exact rfl); (walk_at "bd")))
local macro_rules | `(tactic| walk_at "step") => `(tactic| first
  | ((with_reducible apply r_var); exact rfl)
  | with_reducible apply r_c0
  | with_reducible apply r_cN
  | with_reducible apply r_c
  | with_reducible apply r_op
  | with_reducible apply r_fld
  | ((with_reducible apply r_getF); (walk_at "hp"); (assumption); (assumption); (walk_at "lk"))
  | with_reducible apply s_fld
  | with_reducible apply r_meth
  | ((with_reducible apply r_atM); (walk_at "hp"); (walk_at "lk"))
  | with_reducible apply r_make
  | with_reducible apply r_tB
  | with_reducible apply r_tNot
  | with_reducible apply r_tOr
  | with_reducible apply r_andV
  | with_reducible apply r_chain
  | with_reducible apply r_tTru
  | with_reducible apply r_truN
  | with_reducible apply r_shrN
  | ((with_reducible apply r_shlW); (walk_at "bd"); (walk_at "bdW"))
  | with_reducible apply r_andN
  | with_reducible apply r_orN
  | ((with_reducible apply r_subN); (walk_at "bd"))
  | with_reducible apply r_le
  | with_reducible apply r_gt
  | with_reducible apply r_ge
  | with_reducible apply r_gcons
  | with_reducible apply r_gnil
  | with_reducible apply r_izip
  | ((with_reducible apply r_zipAt); (walk_at "sq"); (walk_at "sq"))
  | with_reducible apply r_un
  | with_reducible apply r_xor
  | with_reducible apply r_addN
  | with_reducible apply r_lt
  | with_reducible apply r_eqN
  | with_reducible apply r_neN
  | ((with_reducible apply r_fdivN); (walk_at "bd"); (walk_at "bd"))
  | ((with_reducible apply r_modN); (walk_at "bd"))
  | ((with_reducible apply r_mulN); (walk_at "bd"))
  | ((with_reducible apply r_shlN); (walk_at "bd"); (walk_at "bd"))
  | with_reducible apply r_i2
  | with_reducible apply r_i1
  | with_reducible apply r_test
  | with_reducible apply r_bl
  | with_reducible apply r_and
  | ((with_reducible apply r_ixN); (walk_at "sq"); (walk_at "bd"))
  | ((with_reducible apply r_ix); (walk_at "sq"); (walk_at "bd"); (walk_at "bd"))
  | ((with_reducible apply r_ixT); (solve_by_elim); (walk_at "bd"))
  | with_reducible apply r_bm
  | ((with_reducible apply r_tyL); (walk_at "sq"))
  | with_reducible apply r_cons
  | with_reducible apply r_nil
  | with_reducible apply r_lst
  | with_reducible apply r_sl
  | with_reducible apply r_noPart
  | with_reducible apply r_part
  | with_reducible apply r_exInt
  | with_reducible apply r_cb
  | with_reducible apply r_call
  | ((with_reducible apply r_lenN); (walk_at "sq"))
  | ((with_reducible apply r_len); (walk_at "sq"))
  | with_reducible apply r_ifE
  | with_reducible apply s_seq
  | with_reducible apply s_asg
  | with_reducible apply s_name
  | with_reducible apply s_ret
  | with_reducible apply s_drop
  | with_reducible apply s_if
  | with_reducible apply s_next
  | with_reducible apply s_sub
  | with_reducible apply s_for
  | with_reducible apply r_rng3
  | with_reducible apply r_rng2
  | with_reducible apply r_rng1
  | with_reducible apply r_ilist
  | with_reducible apply r_ituple
  | with_reducible apply r_lc
  | ((with_reducible apply r_isq); (walk_at "sq"))
  | ((with_reducible apply r_ist); (solve_by_elim))
  | dsimp only [List.set_cons_zero, List.set_cons_succ])
local macro_rules | `(tactic| walk_at "go") => `(tactic| repeat walk_at "step")
local macro_rules | `(tactic| walk_at "b256") => `(tactic| (repeat (first | assumption | apply xor256 | apply twice_lt | apply Bytes.at_)))
local macro_rules | `(tactic| walk_at "app") => `(tactic| (walk_at "go"; walk_at "app1"; intro H' L'; simp only [nv_snoc, List.set_cons_zero, List.set_cons_succ] at L'; try walk_at "go"))
local macro_rules | `(tactic| walk_at "init") => `(tactic| (dsimp only [cxOf, L2.start, List.map, List.map_cons, List.map_nil, List.length_cons, List.length_nil, List.cons_append, List.nil_append, Nat.zero_add, Nat.reduceAdd, Nat.reduceSub, List.replicate_succ, List.replicate_zero]; walk_at "go"))
local macro_rules | `(tactic| walk_at "new") => `(tactic| (apply r_new; (assumption); (walk_at "bd"); intro p' H' L'; simp only [List.nil_append, List.cons_append] at L'))
local macro_rules | `(tactic| walk_at "subl") => `(tactic| (repeat (first | exact List.nil_sublist _ | apply List.Sublist.cons_cons | apply List.Sublist.cons)))
local macro_rules | `(tactic| walk_at "seti") => `(tactic| first
  | ((with_reducible apply r_setL (j := 0)); (assumption); (exact rfl); (walk_at "bd"))
  | ((with_reducible apply r_setL (j := 1)); (assumption); (exact rfl); (walk_at "bd"))
  | ((with_reducible apply r_setL (j := 2)); (assumption); (exact rfl); (walk_at "bd"))
  | ((with_reducible apply r_setL (j := 3)); (assumption); (exact rfl); (walk_at "bd")))

section
variable {P : Program} {w : World} {K : PySem.W.Frag} {mg : Str → Option Value} {base : Heap} {ad : Adr}
def sp_double (K : PySem.W.Frag) : Sp := fun vs H Q _ => ∃ b : Nat, vs = [.int (b : Int)] ∧ b < 256 ∧ Q (.int ((Sy22.twice b : Nat) : Int)) H
abbrev s_double : Stmt := top 1
theorem sc_double : FnScope ["byte"] ["byte"] (defScope s_double) := ⟨rfl, rfl, rfl, by decide +kernel, rfl, by decide +kernel, by decide +kernel⟩
theorem ok_double {f : Addr} {fd : FuncData} (F : Fun K "double" "double" s_double f fd) (T : Txt K mg ad)  : FnOk P w K mg base CX0 1 f fd ["byte"] (sp_double K) := by
  refine F.ok sc_double (fun vs H Q E h => ?_) (fun cdv A outer s H vs Q E hr h => ?_)
  · obtain ⟨b, rfl, _⟩ := h; rfl
  obtain ⟨b, rfl, hb, k⟩ := h
  refine ⟨_, (pss_cons (ps_if (pt_cmpR op_lt (pv 0) pe_int (nomark _)) (pss_one (ps_ret (pe_op op_shlW (pv 0) pe_int))) pss_nil)
      (pss_one (ps_ret (pe_op op_xor (pe_op op_shlW (pv 0) pe_int) pe_int)))), ?_⟩
  walk_at "go"
  refine r_if (fun hc => ?_) (fun hc => ?_)
  · walk_at "go"
    have e : Sy22.twice b = b * 2 ^ 1 := by unfold Sy22.twice; rw [if_neg (by omega)]; omega
    rw [e] at k
    exact k
  · walk_at "go"
    have e : Sy22.twice b = (b * 2 ^ 1) ^^^ 283 := by unfold Sy22.twice; rw [if_pos (by omega), Nat.mul_comm]
    rw [e] at k
    exact k
theorem use_double {H : Hp} {Q : VK} {E : XK} {b : Nat} (h : b < 256) (q : Q (.int ((Sy22.twice b : Nat) : Int)) H) : sp_double K ([.int (b : Int)] ++ []) H Q E := ⟨b, rfl, h, q⟩
end
end My
end
section
set_option Elab.async false
set_option linter.all false
set_option maxRecDepth 100000
set_option maxHeartbeats 2000000
namespace My
open PySem PySem.Spec PyProof.Rows L2
local macro_rules | `(tactic| walk_at "sq") => `(tactic| first
  | assumption
  | (apply Loc.lst (j := 0) <;> first | assumption | exact rfl)
  | (apply Loc.lst (j := 1) <;> first | assumption | exact rfl)
  | (apply Loc.lst (j := 2) <;> first | assumption | exact rfl)
  | (apply Loc.lst (j := 3) <;> first | assumption | exact rfl)
  | (apply Loc.lst (j := 4) <;> first | assumption | exact rfl)
  | (apply Loc.arg <;> assumption))
local macro_rules | `(tactic| walk_at "hp") => `(tactic| first
  | assumption
  | (apply Loc.get (j := 0) <;> first | assumption | exact rfl)
  | (apply Loc.get (j := 1) <;> first | assumption | exact rfl)
  | (apply Loc.get (j := 2) <;> first | assumption | exact rfl)
  | (apply Loc.get (j := 3) <;> first | assumption | exact rfl)
  | (apply Loc.get (j := 4) <;> first | assumption | exact rfl))
local macro_rules | `(tactic| walk_at "bd") => `(tactic| first
  | omega
  | decide
  | (simp only [nv_len, List.length_append, List.length_cons, List.length_nil, List.length_set, List.length_take, List.length_drop] <;> omega)
  | (simp only [sizeLine_eq, nv_len, List.length_append, List.length_cons, List.length_nil, List.length_set, List.length_take, List.length_drop] <;> omega))
local macro_rules | `(tactic| walk_at "bdW") => `(tactic| first | exact Nat.lt_of_lt_of_le (by first | assumption | omega) (by decide +kernel) | assumption)
local macro_rules | `(tactic| walk_at "lk") => `(tactic| rfl)
local macro_rules | `(tactic| walk_at "lt1000") => `(tactic| exact of_decide_eq_true (by rfl))
local macro_rules | `(tactic| walk_at "fp") => `(tactic| first
  | ((with_reducible apply r_putF (j := 0)); (assumption); (exact rfl); (assumption); (assumption); (walk_at "lt1000"))
  | ((with_reducible apply r_putF (j := 1)); (assumption); (exact rfl); (assumption); (assumption); (walk_at "lt1000"))
  | ((with_reducible apply r_putF (j := 2)); (assumption); (exact rfl); (assumption); (assumption); (walk_at "lt1000")))
local macro_rules | `(tactic| walk_at "app1") => `(tactic| first
  | ((with_reducible apply r_append (j := 0)); (assumption); (exact rfl); (walk_at "bd"))
  | ((with_reducible apply r_append (j := 1)); (assumption); (exact rfl); (walk_at "bd"))
  | ((with_reducible apply r_append (j := 2)); (assumption); (exact rfl); (walk_at "bd"))
  | ((with_reducible apply r_append (j := 3)); (assumption); (exact rfl); (walk_at "bd")))
local macro_rules | `(tactic| walk_at "step") => `(tactic| first
  | ((with_reducible apply r_var); exact rfl)
  | with_reducible apply r_c0
  | with_reducible apply r_cN
  | with_reducible apply r_c
  | with_reducible apply r_op
  | with_reducible apply r_fld
  | ((with_reducible apply r_getF); (walk_at "hp"); (assumption); (assumption); (walk_at "lk"))
  | with_reducible apply s_fld
  | with_reducible apply r_meth
  | ((with_reducible apply r_atM); (walk_at "hp"); (walk_at "lk"))
  | with_reducible apply r_make
  | with_reducible apply r_tB
  | with_reducible apply r_tNot
  | with_reducible apply r_tOr
  | with_reducible apply r_andV
  | with_reducible apply r_chain
  | with_reducible apply r_tTru
  | with_reducible apply r_truN
  | with_reducible apply r_shrN
  | ((with_reducible apply r_shlW); (walk_at "bd"); (walk_at "bdW"))
  | with_reducible apply r_andN
  | with_reducible apply r_orN
  | ((with_reducible apply r_subN); (walk_at "bd"))
  | with_reducible apply r_le
  | with_reducible apply r_gt
  | with_reducible apply r_ge
  | with_reducible apply r_gcons
  | with_reducible apply r_gnil
  | with_reducible apply r_izip
  | ((with_reducible apply r_zipAt); (walk_at "sq"); (walk_at "sq"))
  | with_reducible apply r_un
  | with_reducible apply r_xor
  | with_reducible apply r_addN
  | with_reducible apply r_lt
  | with_reducible apply r_eqN
  | with_reducible apply r_neN
  | ((with_reducible apply r_fdivN); (walk_at "bd"); (walk_at "bd"))
  | ((with_reducible apply r_modN); (walk_at "bd"))
  | ((with_reducible apply r_mulN); (walk_at "bd"))
  | ((with_reducible apply r_shlN); (walk_at "bd"); (walk_at "bd"))
  | with_reducible apply r_i2
  | with_reducible apply r_i1
  | with_reducible apply r_test
  | with_reducible apply r_bl
  | with_reducible apply r_and
  | ((with_reducible apply r_ixN); (walk_at "sq"); (walk_at "bd"))
  | ((with_reducible apply r_ix); (walk_at "sq"); (walk_at "bd"); (walk_at "bd"))
  | ((with_reducible apply r_ixT); (solve_by_elim); (walk_at "bd"))
  | with_reducible apply r_bm
  | ((with_reducible apply r_tyL); (walk_at "sq"))
  | with_reducible apply r_cons
  | with_reducible apply r_nil
  | with_reducible apply r_lst
  | with_reducible apply r_sl
  | with_reducible apply r_noPart
  | with_reducible apply r_part
  | with_reducible apply r_exInt
  | with_reducible apply r_cb
  | with_reducible apply r_call
  | ((with_reducible apply r_lenN); (walk_at "sq"))
  | ((with_reducible apply r_len); (walk_at "sq"))
  | with_reducible apply r_ifE
  | with_reducible apply s_seq
  | with_reducible apply s_asg
  | with_reducible apply s_name
  | with_reducible apply s_ret
  | with_reducible apply s_drop
  | with_reducible apply s_if
  | with_reducible apply s_next
  | with_reducible apply s_sub
  | with_reducible apply s_for
  | with_reducible apply r_rng3
  | with_reducible apply r_rng2
  | with_reducible apply r_rng1
  | with_reducible apply r_ilist
  | with_reducible apply r_ituple
  | with_reducible apply r_lc
  | ((with_reducible apply r_isq); (walk_at "sq"))
  | ((with_reducible apply r_ist); (solve_by_elim))
  | dsimp only [List.set_cons_zero, List.set_cons_succ])
local macro_rules | `(tactic| walk_at "go") => `(tactic| repeat walk_at "step")
local macro_rules | `(tactic| walk_at "b256") => `(tactic| (repeat (first | assumption | apply xor256 | apply twice_lt | apply Bytes.at_)))
local macro_rules | `(tactic| walk_at "app") => `(tactic| (walk_at "go"; walk_at "app1"; intro H' L'; simp only [nv_snoc, List.set_cons_zero, List.set_cons_succ] at L'; try walk_at "go"))
local macro_rules | `(tactic| walk_at "init") => `(tactic| (dsimp only [cxOf, L2.start, List.map, List.map_cons, List.map_nil, List.length_cons, List.length_nil, List.cons_append, List.nil_append, Nat.zero_add, Nat.reduceAdd, Nat.reduceSub, List.replicate_succ, List.replicate_zero]; walk_at "go"))
local macro_rules | `(tactic| walk_at "new") => `(tactic| (apply r_new; (assumption); (walk_at "bd"); intro p' H' L'; simp only [List.nil_append, List.cons_append] at L'))
local macro_rules | `(tactic| walk_at "subl") => `(tactic| (repeat (first | exact List.nil_sublist _ | apply List.Sublist.cons_cons | apply List.Sublist.cons)))
local macro_rules | `(tactic| walk_at "seti") => `(tactic| first
  | ((with_reducible apply r_setL (j := 0)); (assumption); (exact rfl); (walk_at "bd"))
  | ((with_reducible apply r_setL (j := 1)); (assumption); (exact rfl); (walk_at "bd"))
  | ((with_reducible apply r_setL (j := 2)); (assumption); (exact rfl); (walk_at "bd"))
  | ((with_reducible apply r_setL (j := 3)); (assumption); (exact rfl); (walk_at "bd")))

section
variable {P : Program} {w : World} {K : PySem.W.Frag} {mg : Str → Option Value} {base : Heap} {ad : Adr}
/-! lay_out -/
def laid (ls : List (List Int)) : List Int := ls.flatMap fun (l : List Int) => (l.length : Int) :: l
theorem laid_snoc (ls : List (List Int)) (l : List Int) : laid (ls ++ [l]) = (laid ls ++ [(l.length : Int)]) ++ l := by
  unfold laid
  simp
theorem laid_le (l1 l2 : List (List Int)) : (laid l1).length ≤ (laid (l1 ++ l2)).length := by
  unfold laid
  simp
def sp_lay_out (K : PySem.W.Frag) : Sp := fun vs H Q _ => ∃ (a : Addr) (rs : List (Addr × List Int)), vs = [.ref a] ∧ SqL K H a (rs.map fun r => V.ref r.1) ∧ (∀ r ∈ rs, H r.1 = some (.lst (iv r.2))) ∧ (laid (rs.map (·.2))).length ≤ 1000000 ∧ ∀ p H', Loc H H' [(p, .lst (iv (laid (rs.map (·.2)))))] → Q (.ref p) H'
abbrev s_lay_out : Stmt := top 16
theorem sc_lay_out : FnScope ["rows", "numbers", "row"] ["rows"] (defScope s_lay_out) := ⟨rfl, rfl, rfl, by decide +kernel, rfl, by decide +kernel, by decide +kernel⟩
theorem ok_lay_out {f : Addr} {fd : FuncData} (F : Fun K "lay_out" "lay_out" s_lay_out f fd) (T : Txt K mg ad)  : FnOk P w K mg base CX0 1 f fd ["rows"] (sp_lay_out K) := by
  refine F.ok sc_lay_out (fun vs H Q E h => ?_) (fun cdv A outer s H vs Q E hr h => ?_)
  · obtain ⟨a, rs, rfl, _⟩ := h; rfl
  obtain ⟨a, rs, rfl, hs, hrs, hz, k⟩ := h
  refine ⟨_, (pss_cons (ps_set (i := 1) sc_lay_out.nd rfl (Or.inl rfl) (pe_lst pa_nil))
      (pss_cons (ps_for PassesOwn.never rfl (pi_list (pv 0)) (pg_name (i := 2) sc_lay_out.nd rfl (Or.inl rfl)) (pss_cons (ps_expr (pe_bm PySem.F.plainAttrs_list PySem.F.slot_list_append PySem.F.type_list_append mt_append (pv 1) (pa_cons (pe_callB (c_lenK (K := K) rfl) (by rfl) T.n_len b_len (pa_cons (pv 2) pa_nil)) pa_nil)))
      (pss_one (ps_expr (pe_bm PySem.F.plainAttrs_list PySem.F.slot_list_extend PySem.F.type_list_extend mt_extend (pv 1) (pa_cons (pv 2) pa_nil))))))
      (pss_one (ps_ret (pv 1))))), ?_⟩
  have L0 := Loc.start H
  walk_at "init"
  apply r_new L0 (by decide)
  intro p H1 L1
  walk_at "go"
  refine f_list (xs := rs.map fun r => V.ref r.1) (fun i σ H' => ∃ (v3 : Option V), σ = [some (.ref a), some (.ref p), v3] ∧ Loc H H' [(p, .lst (iv (laid ((rs.take i).map (·.2)))))]) ⟨_, rfl, L1⟩ (fun i σ H' _ ⟨_, _, L⟩ => L.arg hs) ?_ ?_
  · rintro i x σ H2 hx ⟨v3, rfl, L2⟩
    rw [List.getElem?_map] at hx
    obtain ⟨r, hi, rfl⟩ : ∃ r, rs[i]? = some r ∧ V.ref r.1 = x := by
      cases e : rs[i]? with
      | none => rw [e] at hx; cases hx
      | some r => rw [e] at hx; exact ⟨r, rfl, Option.some.inj hx⟩
    have hmem := hrs r (List.mem_of_getElem? hi)
    have hrow : SqL K H r.1 (iv r.2) := SqL.of hmem
    have hle := laid_le ((rs.take (i + 1)).map (·.2)) ((rs.drop (i + 1)).map (·.2))
    rw [← List.map_append, List.take_append_drop, take_snoc hi, List.map_append, List.map_cons, List.map_nil, laid_snoc, List.length_append, List.length_append, List.length_singleton] at hle
    walk_at "go"
    rw [iv_len]
    refine r_append L2 0 rfl (by rw [iv_len, sizeLine_eq]; omega) ?_
    intro H3 L3
    rw [iv_snoc] at L3
    walk_at "go"
    refine r_extend L3 0 rfl (L3.same _ _ hmem) ?_ ?_
    · rw [iv_len, iv_len, List.length_append, List.length_singleton, sizeLine_eq]; omega
    intro H4 L4
    walk_at "go"
    refine ⟨_, rfl, ?_⟩
    rw [take_snoc hi, List.map_append, List.map_cons, List.map_nil, laid_snoc, ← iv_app]
    exact L4
  · rintro σ H2 ⟨v3, rfl, L2⟩
    rw [List.length_map, List.take_length] at L2
    walk_at "go"
    exact k p H2 L2
theorem use_lay_out {H H0 : Hp} {ls : List (Addr × HO)} {Q : VK} {E : XK} {a : Addr} (rs : List (Addr × List Int)) (L : Loc H0 H ls) (hs : SqL K H a (rs.map fun r => V.ref r.1)) (hrs : ∀ r ∈ rs, H r.1 = some (.lst (iv r.2))) (hz : (laid (rs.map (·.2))).length ≤ 1000000)
    (q : ∀ p H', Loc H0 H' (ls ++ [(p, .lst (iv (laid (rs.map (·.2)))))]) → Q (.ref p) H') : sp_lay_out K ([.ref a] ++ []) H Q E :=
  ⟨a, rs, rfl, hs, hrs, hz, fun p H' M => q p H' (L.calls M)⟩
/-! answer -/
theorem laid_ans (z : Int) (ls : List (List Nat)) : laid ([z] :: ls.map fun l => l.map fun (n : Nat) => (n : Int)) = ans z ls := by
  unfold laid ans
  rw [List.flatMap_cons, List.flatMap_map]
  simp
def sp_answer (K : PySem.W.Frag) : Sp := fun vs H Q _ => ∃ (z : Int) (a : Addr) (rs : List (Addr × List Nat)), vs = [.int z, .ref a] ∧ SqL K H a (rs.map fun r => V.ref r.1) ∧ (∀ r ∈ rs, H r.1 = some (.lst (nv r.2))) ∧ (ans z (rs.map (·.2))).length ≤ 1000000 ∧ rs.length ≤ 1000 ∧ ∀ p H', Loc H H' [(p, .lst (iv (ans z (rs.map (·.2)))))] → Q (.ref p) H'
abbrev s_answer : Stmt := top 17
theorem sc_answer : FnScope ["number", "rows"] ["number", "rows"] (defScope s_answer) := ⟨rfl, rfl, rfl, by decide +kernel, rfl, by decide +kernel, by decide +kernel⟩
theorem ok_answer {f : Addr} {fd : FuncData} (F : Fun K "answer" "answer" s_answer f fd) (T : Txt K mg ad) (C_lay_out : Callee P w K mg base 1 "lay_out" ["rows"] (sp_lay_out K)) : FnOk P w K mg base CX0 2 f fd ["number", "rows"] (sp_answer K) := by
  refine F.ok sc_answer (fun vs H Q E h => ?_) (fun cdv A outer s H vs Q E hr h => ?_)
  · obtain ⟨z, a, rs, rfl, _⟩ := h; rfl
  obtain ⟨z, a, rs, rfl, hs, hrs, hz, hn, k⟩ := h
  refine ⟨_, (pss_one (ps_ret (pe_fn C_lay_out (hr.mono (by decide)) rfl (pa_cons (pe_op (op_catK (K := K) rfl) (pe_lst (pa_cons (pe_lst (pa_cons (pv 0) pa_nil)) pa_nil)) (pv 1)) pa_nil)))), ?_⟩
  have L0 := Loc.start H
  walk_at "init"
  apply r_new L0 (by show 1 ≤ sizeLine; decide)
  intro p H1 L1
  walk_at "go"
  apply r_new L1 (by show 1 ≤ sizeLine; decide)
  intro p2 H2 L2
  walk_at "go"
  refine r_catK L2 (L2.lst 1 rfl) (L2.arg hs) (by rw [List.length_map, sizeLine_eq]; show 1 + _ ≤ _; omega) fun p3 H3 L3 => ?_
  walk_at "go"
  have hl : ((p, [z]) :: rs.map fun r => (r.1, r.2.map fun (n : Nat) => (n : Int))).map (·.2) = [z] :: (rs.map (·.2)).map fun l => l.map fun (n : Nat) => (n : Int) := by simp
  refine use_lay_out ((p, [z]) :: rs.map fun r => (r.1, r.2.map fun (n : Nat) => (n : Int))) L3 ?_ ?_ ?_ fun p4 H4 L4 => ?_
  · have e : ((p, [z]) :: rs.map fun r => (r.1, r.2.map fun (n : Nat) => (n : Int))).map (fun r => V.ref r.1) = [V.ref p] ++ rs.map fun r => V.ref r.1 := by simp
    rw [e]
    exact L3.lst 2 rfl
  · intro r hr
    rcases List.mem_cons.mp hr with rfl | hr
    · exact L3.get 0 rfl
    · obtain ⟨r', hr', rfl⟩ := List.mem_map.mp hr
      have := L3.same _ _ (hrs r' hr')
      rw [nv_iv] at this
      exact this
  · rw [hl, laid_ans]; exact hz
  · rw [hl, laid_ans] at L4
    exact k p4 H4 (L4.pick 3 rfl)
theorem use_answer {H H0 : Hp} {ls : List (Addr × HO)} {Q : VK} {E : XK} {a : Addr} {z : Int} (rs : List (Addr × List Nat)) (L : Loc H0 H ls) (hs : SqL K H a (rs.map fun r => V.ref r.1)) (hrs : ∀ r ∈ rs, H r.1 = some (.lst (nv r.2))) (hz : (ans z (rs.map (·.2))).length ≤ 1000000)
    (q : ∀ p H', Loc H0 H' (ls ++ [(p, .lst (iv (ans z (rs.map (·.2)))))]) → Q (.ref p) H') (hn : rs.length ≤ 1000 := by first | decide | simp) : sp_answer K ([.int z, .ref a] ++ []) H Q E :=
  ⟨z, a, rs, rfl, hs, hrs, hz, hn, fun p H' M => q p H' (L.calls M)⟩
end
end My
end
section
set_option Elab.async false
set_option linter.all false
set_option maxRecDepth 100000
set_option maxHeartbeats 2000000
namespace My
open PySem PySem.Spec PyProof.Rows L2
local macro_rules | `(tactic| walk_at "sq") => `(tactic| first
  | assumption
  | (apply Loc.lst (j := 0) <;> first | assumption | exact rfl)
  | (apply Loc.lst (j := 1) <;> first | assumption | exact rfl)
  | (apply Loc.lst (j := 2) <;> first | assumption | exact rfl)
  | (apply Loc.lst (j := 3) <;> first | assumption | exact rfl)
  | (apply Loc.lst (j := 4) <;> first | assumption | exact rfl)
  | (apply Loc.arg <;> assumption))
local macro_rules | `(tactic| walk_at "hp") => `(tactic| first
  | assumption
  | (apply Loc.get (j := 0) <;> first | assumption | exact rfl)
  | (apply Loc.get (j := 1) <;> first | assumption | exact rfl)
  | (apply Loc.get (j := 2) <;> first | assumption | exact rfl)
  | (apply Loc.get (j := 3) <;> first | assumption | exact rfl)
  | (apply Loc.get (j := 4) <;> first | assumption | exact rfl))
local macro_rules | `(tactic| walk_at "bd") => `(tactic| first
  | omega
  | decide
  | (simp only [nv_len, List.length_append, List.length_cons, List.length_nil, List.length_set, List.length_take, List.length_drop] <;> omega)
  | (simp only [sizeLine_eq, nv_len, List.length_append, List.length_cons, List.length_nil, List.length_set, List.length_take, List.length_drop] <;> omega))
local macro_rules | `(tactic| walk_at "bdW") => `(tactic| first | exact Nat.lt_of_lt_of_le (by first | assumption | omega) (by decide +kernel) | assumption)
local macro_rules | `(tactic| walk_at "lk") => `(tactic| rfl)
local macro_rules | `(tactic| walk_at "lt1000") => `(tactic| exact of_decide_eq_true (by rfl))
local macro_rules | `(tactic| walk_at "fp") => `(tactic| first
  | ((with_reducible apply r_putF (j := 0)); (assumption); (exact rfl); (assumption); (assumption); (walk_at "lt1000"))
  | ((with_reducible apply r_putF (j := 1)); (assumption); (exact rfl); (assumption); (assumption); (walk_at "lt1000"))
  | ((with_reducible apply r_putF (j := 2)); (assumption); (exact rfl); (assumption); (assumption); (walk_at "lt1000")))
local macro_rules | `(tactic| walk_at "app1") => `(tactic| first
  | ((with_reducible apply r_append (j := 0)); (assumption); (exact rfl); (walk_at "bd"))
  | ((with_reducible apply r_append (j := 1)); (assumption); (exact rfl); (walk_at "bd"))
  | ((with_reducible apply r_append (j := 2)); (assumption); (exact rfl); (walk_at "bd"))
  | ((with_reducible apply r_append (j := 3)); (assumption); (exact rfl); (walk_at "bd")))
local macro_rules | `(tactic| walk_at "step") => `(tactic| first
  | ((with_reducible apply r_var); exact rfl)
  | with_reducible apply r_c0
  | with_reducible apply r_cN
  | with_reducible apply r_c
  | with_reducible apply r_op
  | with_reducible apply r_fld
  | ((with_reducible apply r_getF); (walk_at "hp"); (assumption); (assumption); (walk_at "lk"))
  | with_reducible apply s_fld
  | with_reducible apply r_meth
  | ((with_reducible apply r_atM); (walk_at "hp"); (walk_at "lk"))
  | with_reducible apply r_make
  | with_reducible apply r_tB
  | with_reducible apply r_tNot
  | with_reducible apply r_tOr
  | with_reducible apply r_andV
  | with_reducible apply r_chain
  | with_reducible apply r_tTru
  | with_reducible apply r_truN
  | with_reducible apply r_shrN
  | ((with_reducible apply r_shlW); (walk_at "bd"); (walk_at "bdW"))
  | with_reducible apply r_andN
  | with_reducible apply r_orN
  | ((with_reducible apply r_subN); (walk_at "bd"))
  | with_reducible apply r_le
  | with_reducible apply r_gt
  | with_reducible apply r_ge
  | with_reducible apply r_gcons
  | with_reducible apply r_gnil
  | with_reducible apply r_izip
  | ((with_reducible apply r_zipAt); (walk_at "sq"); (walk_at "sq"))
  | with_reducible apply r_un
  | with_reducible apply r_xor
  | with_reducible apply r_addN
  | with_reducible apply r_lt
  | with_reducible apply r_eqN
  | with_reducible apply r_neN
  | ((with_reducible apply r_fdivN); (walk_at "bd"); (walk_at "bd"))
  | ((with_reducible apply r_modN); (walk_at "bd"))
  | ((with_reducible apply r_mulN); (walk_at "bd"))
  | ((with_reducible apply r_shlN); (walk_at "bd"); (walk_at "bd"))
  | with_reducible apply r_i2
  | with_reducible apply r_i1
  | with_reducible apply r_test
  | with_reducible apply r_bl
  | with_reducible apply r_and
  | ((with_reducible apply r_ixN); (walk_at "sq"); (walk_at "bd"))
  | ((with_reducible apply r_ix); (walk_at "sq"); (walk_at "bd"); (walk_at "bd"))
  | ((with_reducible apply r_ixT); (solve_by_elim); (walk_at "bd"))
  | with_reducible apply r_bm
  | ((with_reducible apply r_tyL); (walk_at "sq"))
  | with_reducible apply r_cons
  | with_reducible apply r_nil
  | with_reducible apply r_lst
  | with_reducible apply r_sl
  | with_reducible apply r_noPart
  | with_reducible apply r_part
  | with_reducible apply r_exInt
  | with_reducible apply r_cb
  | with_reducible apply r_call
  | ((with_reducible apply r_lenN); (walk_at "sq"))
  | ((with_reducible apply r_len); (walk_at "sq"))
  | with_reducible apply r_ifE
  | with_reducible apply s_seq
  | with_reducible apply s_asg
  | with_reducible apply s_name
  | with_reducible apply s_ret
  | with_reducible apply s_drop
  | with_reducible apply s_if
  | with_reducible apply s_next
  | with_reducible apply s_sub
  | with_reducible apply s_for
  | with_reducible apply r_rng3
  | with_reducible apply r_rng2
  | with_reducible apply r_rng1
  | with_reducible apply r_ilist
  | with_reducible apply r_ituple
  | with_reducible apply r_lc
  | ((with_reducible apply r_isq); (walk_at "sq"))
  | ((with_reducible apply r_ist); (solve_by_elim))
  | dsimp only [List.set_cons_zero, List.set_cons_succ])
local macro_rules | `(tactic| walk_at "go") => `(tactic| repeat walk_at "step")
local macro_rules | `(tactic| walk_at "b256") => `(tactic| (repeat (first | assumption | apply xor256 | apply twice_lt | apply Bytes.at_)))
local macro_rules | `(tactic| walk_at "app") => `(tactic| (walk_at "go"; walk_at "app1"; intro H' L'; simp only [nv_snoc, List.set_cons_zero, List.set_cons_succ] at L'; try walk_at "go"))
local macro_rules | `(tactic| walk_at "init") => `(tactic| (dsimp only [cxOf, L2.start, List.map, List.map_cons, List.map_nil, List.length_cons, List.length_nil, List.cons_append, List.nil_append, Nat.zero_add, Nat.reduceAdd, Nat.reduceSub, List.replicate_succ, List.replicate_zero]; walk_at "go"))
local macro_rules | `(tactic| walk_at "new") => `(tactic| (apply r_new; (assumption); (walk_at "bd"); intro p' H' L'; simp only [List.nil_append, List.cons_append] at L'))
local macro_rules | `(tactic| walk_at "subl") => `(tactic| (repeat (first | exact List.nil_sublist _ | apply List.Sublist.cons_cons | apply List.Sublist.cons)))
local macro_rules | `(tactic| walk_at "seti") => `(tactic| first
  | ((with_reducible apply r_setL (j := 0)); (assumption); (exact rfl); (walk_at "bd"))
  | ((with_reducible apply r_setL (j := 1)); (assumption); (exact rfl); (walk_at "bd"))
  | ((with_reducible apply r_setL (j := 2)); (assumption); (exact rfl); (walk_at "bd"))
  | ((with_reducible apply r_setL (j := 3)); (assumption); (exact rfl); (walk_at "bd")))

section
variable {P : Program} {w : World} {K : PySem.W.Frag} {mg : Str → Option Value} {base : Heap} {ad : Adr}
/-! multiples -/
def sp_multiples (K : PySem.W.Frag) : Sp := fun vs H Q _ => ∃ (f : Nat), vs = [.int (f : Int)] ∧ f < 256 ∧ ∀ p H', Loc H H' [(p, .lst (nv (tab f 8)))] → Q (.ref p) H'
abbrev s_multiples : Stmt := top 2
theorem sc_multiples : FnScope ["factor", "products", "power", "product"] ["factor"] (defScope s_multiples) := ⟨rfl, rfl, rfl, by decide +kernel, rfl, by decide +kernel, by decide +kernel⟩
theorem ok_multiples {f : Addr} {fd : FuncData} (F : Fun K "multiples" "multiples" s_multiples f fd) (T : Txt K mg ad) (C_double : Callee P w K mg base 1 "double" ["byte"] (sp_double K)) : FnOk P w K mg base CX0 2 f fd ["factor"] (sp_multiples K) := by
  refine F.ok sc_multiples (fun vs H Q E h => ?_) (fun cdv A outer s H vs Q E hr h => ?_)
  · obtain ⟨f, rfl, _⟩ := h; rfl
  obtain ⟨f, rfl, hf, k⟩ := h
  refine ⟨_, (pss_cons (ps_set (i := 1) sc_multiples.nd rfl (Or.inl rfl) (pe_lst (pa_cons pe_int pa_nil)))
      (pss_cons (ps_for PassesOwn.never rfl (pi_range1 rfl T.n_range (pa_cons pe_int pa_nil)) (pg_name (i := 2) sc_multiples.nd rfl (Or.inl rfl)) (pss_cons (ps_set (i := 1) sc_multiples.nd rfl (Or.inl rfl) (pe_op (op_catK (K := K) rfl) (pv 1) (pe_lc rfl sc_multiples.nd (pi_list (pv 1)) (blkOk_by (own := [("product", 3)]) (by show blkC ["factor", "products", "power", "product"] (defScope s_multiples) _ _ = true; decide +kernel)) (fun _ _ _ _ _ => pg_name (i := 3) sc_multiples.nd rfl (Or.inl rfl)) (fun _ _ _ _ _ => pts_nil) (fun _ _ _ _ _ => (pe_op op_xor (pv 3) (pv 0))))))
      (pss_one (ps_set (i := 0) sc_multiples.nd rfl (Or.inr rfl) (pe_fn C_double (hr.mono (by decide)) rfl (pa_cons (pv 0) pa_nil))))))
      (pss_one (ps_ret (pv 1))))), ?_⟩
  have L0 := Loc.start H
  walk_at "init"
  apply r_new L0 (by show 1 ≤ sizeLine; decide)
  intro p H1 L1
  walk_at "go"
  refine ⟨8, rfl, by decide, by decide, f_range (fun i σ H' => ∃ (q : Addr) (v2 v3 : Option V), σ = [some (.int ((tw i f : Nat) : Int)), some (.ref q), v2, v3] ∧ Loc H H' [(q, .lst (nv (tab f i)))]) ⟨p, _, _, rfl, L1⟩ ?_ ?_⟩
  · rintro i σ H2 hi ⟨q, v2, v3, rfl, L2⟩
    have hi : i < 8 := hi
    have tl : (tab f i).length ≤ 128 := by
      rw [tab_len]
      exact (Nat.pow_le_pow_right (by decide) (show i ≤ 7 by omega) : 2 ^ i ≤ 2 ^ 7)
    walk_at "go"
    refine lc_l L2 (L2.lst 0 rfl) (by rw [sizeLine_eq]; omega) (fun j => (tab f i).getD j 0 ^^^ tw i f) ?_ ?_
    · intro j hj H7 D o R L7 r
      walk_at "go"
      exact r
    · intro D H3 L3
      rw [range_map_get (tab f i) (fun x => x ^^^ tw i f)] at L3
      walk_at "go"
      refine r_cat2 L3 (L3.lst 0 rfl) (L3.lst 1 rfl) (by rw [List.length_map, sizeLine_eq]; omega) fun q2 H4 L4 => ?_
      rw [← tab_succ] at L4
      walk_at "go"
      refine use_double (tw_lt i hf) ?_
      rw [← tw_succ]
      walk_at "go"
      exact ⟨q2, _, _, rfl, L4.pick 2 rfl⟩
  · rintro σ H2 ⟨q, v2, v3, rfl, L2⟩
    walk_at "go"
    exact k q H2 L2
theorem use_multiples {H H0 : Hp} {ls : List (Addr × HO)} {Q : VK} {E : XK} {f : Nat} (L : Loc H0 H ls) (hf : f < 256) (q : ∀ p H', Loc H0 H' (ls ++ [(p, .lst (nv (tab f 8)))]) → Q (.ref p) H') : sp_multiples K ([.int (f : Int)] ++ []) H Q E :=
  ⟨f, rfl, hf, fun p H' M => q p H' (L.calls M)⟩
/-! inverse -/
def sp_inverse (K : PySem.W.Frag) : Sp := fun vs H Q _ => ∃ (b : Nat), vs = [.int (b : Int)] ∧ b < 256 ∧ b ≠ 0 ∧ ∀ H' ms, Loc H H' ms → Q (.int ((Sy22.inv b : Nat) : Int)) H'
abbrev s_inverse : Stmt := top 3
theorem sc_inverse : FnScope ["byte"] ["byte"] (defScope s_inverse) := ⟨rfl, rfl, rfl, by decide +kernel, rfl, by decide +kernel, by decide +kernel⟩
theorem ok_inverse {f : Addr} {fd : FuncData} (F : Fun K "inverse" "inverse" s_inverse f fd) (T : Txt K mg ad) (C_multiples : Callee P w K mg base 2 "multiples" ["factor"] (sp_multiples K)) : FnOk P w K mg base CX0 3 f fd ["byte"] (sp_inverse K) := by
  refine F.ok sc_inverse (fun vs H Q E h => ?_) (fun cdv A outer s H vs Q E hr h => ?_)
  · obtain ⟨f, rfl, _⟩ := h; rfl
  obtain ⟨b, rfl, hb, h0, k⟩ := h
  refine ⟨_, (pss_one (ps_ret (pe_bm PySem.F.plainAttrs_list PySem.F.slot_list_index PySem.F.type_list_index (mt_indexK (K := K) rfl) (pe_fn C_multiples (hr.mono (by decide)) rfl (pa_cons (pv 0) pa_nil)) (pa_cons pe_int pa_nil)))), ?_⟩
  have L0 := Loc.start H
  walk_at "init"
  refine use_multiples L0 hb fun p H1 L1 => ?_
  walk_at "go"
  have il := inv_lt hb
  refine r_index (xs := tab b 8) (n := 1) (Sy22.inv b) (L1.lst 0 rfl) (by rw [tab_len]; exact il) (by rw [tab_at il]; exact inv_mul h0 hb) (fun m hm e => ?_) ?_
  · rw [tab_at (by omega)] at e
    have := inv_uniq hb h0 (by omega) e
    omega
  · walk_at "go"
    exact k H1 _ L1
theorem use_inverse {H H0 : Hp} {ls : List (Addr × HO)} {Q : VK} {E : XK} {b : Nat} (L : Loc H0 H ls) (hb : b < 256) (h0 : b ≠ 0) (q : ∀ H', Loc H0 H' ls → Q (.int ((Sy22.inv b : Nat) : Int)) H') : sp_inverse K ([.int (b : Int)] ++ []) H Q E :=
  ⟨b, rfl, hb, h0, fun H' ms M => q H' ((L.calls M).sub (List.sublist_append_left _ _))⟩
/-! can_share -/
def sp_can_share (K : PySem.W.Frag) : Sp := fun vs H Q _ => ∃ (k m : Nat), vs = [.int (k : Int), .int (m : Int)] ∧ Q (.bl (decide (1 ≤ k ∧ k + m ≤ 32))) H
abbrev s_can_share : Stmt := top 6
theorem sc_can_share : FnScope ["k", "m"] ["k", "m"] (defScope s_can_share) := ⟨rfl, rfl, rfl, by decide +kernel, rfl, by decide +kernel, by decide +kernel⟩
theorem ok_can_share {f : Addr} {fd : FuncData} (F : Fun K "can_share" "can_share" s_can_share f fd) (T : Txt K mg ad)  : FnOk P w K mg base CX0 1 f fd ["k", "m"] (sp_can_share K) := by
  refine F.ok sc_can_share (fun vs H Q E h => ?_) (fun cdv A outer s H vs Q E hr h => ?_)
  · obtain ⟨f, m, rfl, _⟩ := h; rfl
  obtain ⟨k, m, rfl, q⟩ := h
  refine ⟨_, (pss_one (ps_ret (pe_and (pe_cmpR op_ge (pv 0) pe_int (nomark _)) (pe_one (pe_cmpR op_le (pe_op op_add (pv 0) (pv 1)) (pe_glob (v := .int 32) rfl T.g_MOST_SHARES.choose_spec ⟨_, rfl⟩) (nomark _)))))), ?_⟩
  walk_at "init"
  refine r_if (fun hc => ?_) (fun hc => ?_)
  · walk_at "go"
    rw [show decide (1 ≤ k ∧ k + m ≤ 32) = decide (k + m ≤ 32) by simp [hc]] at q
    exact q
  · rw [show decide (1 ≤ k ∧ k + m ≤ 32) = false by simp [hc]] at q
    exact q
theorem use_can_share {H : Hp} {Q : VK} {E : XK} {k m : Nat} (q : Q (.bl (decide (1 ≤ k ∧ k + m ≤ 32))) H) : sp_can_share K ([.int (k : Int), .int (m : Int)] ++ []) H Q E := ⟨k, m, rfl, q⟩
/-! cut -/
def cutR (data : List Nat) (size n : Nat) : List (List Nat) := (List.range n).map fun (i : Nat) => Sy22.part data (size * i) size
def sp_cut (K : PySem.W.Frag) : Sp := fun vs H Q _ => ∃ (a : Addr) (data : List Nat) (n size : Nat), vs = [.ref a, .int (n : Int), .int (size : Int)] ∧ SqL K H a (nv data) ∧ n * size ≤ data.length ∧ n ≤ 1000 ∧ size ≤ 10000 ∧ ∀ p as H', as.length = n → Loc H H' ((p, .lst (refs as)) :: rowO as (cutR data size n)) → Q (.ref p) H'
abbrev s_cut : Stmt := top 7
theorem sc_cut : FnScope ["data", "count", "size", "at"] ["data", "count", "size"] (defScope s_cut) := ⟨rfl, rfl, rfl, by decide +kernel, rfl, by decide +kernel, by decide +kernel⟩
theorem ok_cut {f : Addr} {fd : FuncData} (F : Fun K "cut" "cut" s_cut f fd) (T : Txt K mg ad)  : FnOk P w K mg base CX0 1 f fd ["data", "count", "size"] (sp_cut K) := by
  refine F.ok sc_cut (fun vs H Q E h => ?_) (fun cdv A outer s H vs Q E hr h => ?_)
  · obtain ⟨a, data, n, size, rfl, _⟩ := h; rfl
  obtain ⟨a, data, n, size, rfl, hs, hl, hn, hz, k⟩ := h
  refine ⟨_, (pss_one (ps_ret (pe_lc rfl sc_cut.nd (pi_range1 rfl T.n_range (pa_cons (pv 1) pa_nil)) (blkOk_by (own := [("at", 3)]) (by show blkC ["data", "count", "size", "at"] (defScope s_cut) _ _ = true; decide +kernel)) (fun _ _ _ _ _ => pg_name (i := 3) sc_cut.nd rfl (Or.inl rfl)) (fun _ _ _ _ _ => pts_nil) (fun _ _ _ _ _ => (pe_slice (sl_listK (K := K) rfl) (pv 0) (po_some (pe_op op_mul (pv 2) (pv 3))) (po_some (pe_op op_add (pe_op op_mul (pv 2) (pv 3)) (pv 2)))))))), ?_⟩
  have L0 := Loc.start H
  walk_at "init"
  refine ⟨(n : Int), rfl, by omega, by omega, ?_⟩
  rw [Int.toNat_natCast]
  refine lc_rowsR L0 (by rw [sizeLine_eq]; omega) (fun i => Sy22.part data (size * i) size) ?_ ?_
  · intro i hi H1 R sm r
    rw [Int.zero_add]
    have hle : size * i + size ≤ data.length := by
      have : size * (i + 1) ≤ size * n := Nat.mul_le_mul_left _ hi
      rw [Nat.mul_succ] at this
      rw [Nat.mul_comm n size] at hl
      omega
    have hsz := sm.seq hs
    walk_at "go"
    refine r_slice (Loc.start H1) hsz fun p H2 L2 => ?_
    rw [nv_cut2 (by omega) (by omega) (by omega), Int.toNat_natCast, Int.toNat_natCast] at L2
    have e5 : My.cut data (size * i) (size * i + size) = Sy22.part data (size * i) size := by unfold My.cut Sy22.part; rw [Nat.add_sub_cancel_left]
    rw [e5] at L2
    exact r p H2 L2
  · intro D as H1 hl1 L1
    exact k D as H1 hl1 L1
theorem use_cut {H H0 : Hp} {ls : List (Addr × HO)} {Q : VK} {E : XK} {a : Addr} {data : List Nat} {n size : Nat} (L : Loc H0 H ls) (hs : SqL K H a (nv data)) (hl : n * size ≤ data.length) (hn : n ≤ 1000) (hz : size ≤ 10000)
    (q : ∀ p as H', as.length = n → Loc H0 H' (ls ++ (p, .lst (refs as)) :: rowO as (cutR data size n)) → Q (.ref p) H') : sp_cut K ([.ref a, .int (n : Int), .int (size : Int)] ++ []) H Q E :=
  ⟨a, data, n, size, rfl, hs, hl, hn, hz, fun p as H' hl' M => q p as H' hl' (L.calls M)⟩
/-! chain -/
def sp_chain (K : PySem.W.Frag) : Sp := fun vs H Q _ => ∃ (a : Addr) (as : List Addr) (rows : List (List Nat)), vs = [.ref a] ∧ Rows K H a as rows ∧ rows.flatten.length ≤ 1000000 ∧ ∀ p H', Loc H H' [(p, .lst (nv rows.flatten))] → Q (.ref p) H'
abbrev s_chain : Stmt := top 8
theorem sc_chain : FnScope ["rows", "chained", "row"] ["rows"] (defScope s_chain) := ⟨rfl, rfl, rfl, by decide +kernel, rfl, by decide +kernel, by decide +kernel⟩
theorem flat_take_le (rows : List (List Nat)) (i : Nat) : (rows.take i).flatten.length ≤ rows.flatten.length := by
  have : rows.flatten.length = (rows.take i).flatten.length + (rows.drop i).flatten.length := by rw [← List.length_append, ← List.flatten_append, List.take_append_drop]
  omega
theorem ok_chain {f : Addr} {fd : FuncData} (F : Fun K "chain" "chain" s_chain f fd) (T : Txt K mg ad)  : FnOk P w K mg base CX0 1 f fd ["rows"] (sp_chain K) := by
  refine F.ok sc_chain (fun vs H Q E h => ?_) (fun cdv A outer s H vs Q E hr h => ?_)
  · obtain ⟨a, as, rows, rfl, _⟩ := h; rfl
  obtain ⟨a, as, rows, rfl, hR, hz, k⟩ := h
  refine ⟨_, (pss_cons (ps_set (i := 1) sc_chain.nd rfl (Or.inl rfl) (pe_lst pa_nil))
      (pss_cons (ps_for PassesOwn.never rfl (pi_list (pv 0)) (pg_name (i := 2) sc_chain.nd rfl (Or.inl rfl)) (pss_one (ps_expr (pe_bm PySem.F.plainAttrs_list PySem.F.slot_list_extend PySem.F.type_list_extend mt_extend (pv 1) (pa_cons (pv 2) pa_nil)))))
      (pss_one (ps_ret (pv 1))))), ?_⟩
  have L0 := Loc.start H
  have hs := hR.lst
  walk_at "init"
  apply r_new L0 (by decide)
  intro p H1 L1
  walk_at "go"
  refine f_list (xs := refs as) (fun i σ H' => ∃ (v3 : Option V), σ = [some (.ref a), some (.ref p), v3] ∧ Loc H H' [(p, .lst (nv ((rows.take i).flatten)))]) ⟨_, rfl, L1⟩ (fun i σ H' _ ⟨_, _, L⟩ => L.arg hs) ?_ ?_
  · rintro i x σ H2 hx ⟨v3, rfl, L2⟩
    unfold refs at hx
    rw [List.getElem?_map] at hx
    obtain ⟨r, hi, rfl⟩ : ∃ r, as[i]? = some r ∧ V.ref r = x := by
      cases e : as[i]? with
      | none => rw [e] at hx; cases hx
      | some r => rw [e] at hx; exact ⟨r, rfl, Option.some.inj hx⟩
    have hil : i < rows.length := by rw [← hR.len]; exact (List.getElem?_eq_some_iff.mp hi).1
    have hmem := hR.at_ i r rows[i] hi (List.getElem?_eq_getElem hil)
    have hle := flat_take_le rows (i + 1)
    have e1 : rows.take (i + 1) = rows.take i ++ [rows[i]] := take_snoc (List.getElem?_eq_getElem hil)
    rw [e1, List.flatten_append, List.flatten_cons, List.flatten_nil, List.append_nil, List.length_append] at hle
    walk_at "go"
    refine r_extend L2 0 rfl (L2.same _ _ hmem) (by rw [nv_len, nv_len, sizeLine_eq]; omega) fun H4 L4 => ?_
    walk_at "go"
    refine ⟨_, rfl, ?_⟩
    rw [e1, List.flatten_append, List.flatten_cons, List.flatten_nil, List.append_nil, nv_app]
    exact L4
  · rintro σ H2 ⟨v3, rfl, L2⟩
    rw [refs_len, hR.len, List.take_length] at L2
    walk_at "go"
    exact k p H2 L2
theorem use_chain {H H0 : Hp} {ls : List (Addr × HO)} {Q : VK} {E : XK} {a : Addr} {as : List Addr} {rows : List (List Nat)} (L : Loc H0 H ls) (hR : Rows K H a as rows) (hz : rows.flatten.length ≤ 1000000)
    (q : ∀ p H', Loc H0 H' (ls ++ [(p, .lst (nv rows.flatten))]) → Q (.ref p) H') : sp_chain K ([.ref a] ++ []) H Q E :=
  ⟨a, as, rows, rfl, hR, hz, fun p H' M => q p H' (L.calls M)⟩
/-! factors_of -/
def sp_factors_of (K : PySem.W.Frag) : Sp := fun vs H Q _ => ∃ (k place : Nat), vs = [.int (k : Int), .int (place : Int)] ∧ k ≤ 64 ∧ place < 64 ∧ ∀ p H', Loc H H' [(p, .lst (nv (Sy22.rowFor k place)))] → Q (.ref p) H'
abbrev s_factors_of : Stmt := top 9
theorem sc_factors_of : FnScope ["k", "place", "j"] ["k", "place"] (defScope s_factors_of) := ⟨rfl, rfl, rfl, by decide +kernel, rfl, by decide +kernel, by decide +kernel⟩
theorem ok_factors_of {f : Addr} {fd : FuncData} (F : Fun K "factors_of" "factors_of" s_factors_of f fd) (T : Txt K mg ad) (C_inverse : Callee P w K mg base 3 "inverse" ["byte"] (sp_inverse K)) : FnOk P w K mg base CX0 4 f fd ["k", "place"] (sp_factors_of K) := by
  refine F.ok sc_factors_of (fun vs H Q E h => ?_) (fun cdv A outer s H vs Q E hr h => ?_)
  · obtain ⟨f, m, rfl, _⟩ := h; rfl
  obtain ⟨k, place, rfl, hk, hp, q⟩ := h
  refine ⟨_, (pss_cons (ps_if (pt_cmpR op_lt (pv 1) (pv 0) (nomark _)) (pss_one (ps_ret (pe_lc rfl sc_factors_of.nd (pi_range1 rfl T.n_range (pa_cons (pv 0) pa_nil)) (blkOk_by (own := [("j", 2)]) (by show blkC ["k", "place", "j"] (defScope s_factors_of) _ _ = true; decide +kernel)) (fun _ _ _ _ _ => pg_name (i := 2) sc_factors_of.nd rfl (Or.inl rfl)) (fun _ _ _ _ _ => pts_nil) (fun _ _ _ _ _ => (pe_ifExp (pt_cmpR op_eq (pv 2) (pv 1) (nomark _)) pe_int pe_int))))) pss_nil)
      (pss_one (ps_ret (pe_lc rfl sc_factors_of.nd (pi_range1 rfl T.n_range (pa_cons (pv 0) pa_nil)) (blkOk_by (own := [("j", 2)]) (by show blkC ["k", "place", "j"] (defScope s_factors_of) _ _ = true; decide +kernel)) (fun _ _ _ _ _ => pg_name (i := 2) sc_factors_of.nd rfl (Or.inl rfl)) (fun _ _ _ _ _ => pts_nil) (fun _ _ _ _ _ => (pe_fn C_inverse (hr.mono (by decide)) rfl (pa_cons (pe_op op_xor (pv 1) (pv 2)) pa_nil))))))), ?_⟩
  have L0 := Loc.start H
  walk_at "init"
  refine r_if (fun hc => ?_) (fun hc => ?_)
  · walk_at "go"
    refine ⟨(k : Int), rfl, by omega, by omega, ?_⟩
    rw [Int.toNat_natCast]
    refine lc_r L0 (by rw [sizeLine_eq]; omega) (fun j => if place = j then 1 else 0) ?_ ?_
    · intro i hi H1 D o R L1 r
      walk_at "go"
      refine r_if (fun hc => ?_) (fun hc => ?_)
      · rw [if_pos hc.symm] at r
        walk_at "go"
        exact r
      · rw [if_neg fun e => hc e.symm] at r
        walk_at "go"
        exact r
    · intro D H1 L1
      have e : Sy22.rowFor k place = (List.range k).map fun j => if place = j then 1 else 0 := by
        unfold Sy22.rowFor
        exact List.map_congr_left fun j _ => if_pos hc
      rw [← e] at L1
      exact q D H1 L1
  · walk_at "go"
    refine ⟨(k : Int), rfl, by omega, by omega, ?_⟩
    rw [Int.toNat_natCast]
    refine lc_rC L0 (by rw [sizeLine_eq]; omega) (fun j => Sy22.inv (place ^^^ j)) ?_ ?_
    · intro i hi H1 R sm r
      rw [Int.zero_add]
      walk_at "go"
      refine use_inverse (Loc.start H1) (Nat.lt_of_lt_of_le (Nat.xor_lt_two_pow (n := 6) hp (by omega)) (by decide)) (xor_ne (by omega)) fun H2 L2 => ?_
      exact r H2 _ L2
    · intro D H1 L1
      have e : Sy22.rowFor k place = (List.range k).map fun j => Sy22.inv (place ^^^ j) := by
        unfold Sy22.rowFor
        exact List.map_congr_left fun j _ => if_neg hc
      rw [← e] at L1
      exact q D H1 L1
theorem use_factors_of {H H0 : Hp} {ls : List (Addr × HO)} {Q : VK} {E : XK} {k place : Nat} (L : Loc H0 H ls) (hk : k ≤ 64) (hp : place < 64) (q : ∀ p H', Loc H0 H' (ls ++ [(p, .lst (nv (Sy22.rowFor k place)))]) → Q (.ref p) H') : sp_factors_of K ([.int (k : Int), .int (place : Int)] ++ []) H Q E :=
  ⟨k, place, rfl, hk, hp, fun p H' M => q p H' (L.calls M)⟩
/-! add_multiple -/
def sp_add_multiple (K : PySem.W.Frag) : Sp := fun vs H Q _ => ∃ (a b : Addr) (row other : List Nat) (f : Nat), vs = [.ref a, .int (f : Int), .ref b] ∧ SqL K H a (nv row) ∧ SqL K H b (nv other) ∧ f < 256 ∧ row.length = other.length ∧ row.length ≤ 100000 ∧ Bytes other ∧ ∀ p H', Loc H H' [(p, .lst (nv (addM row f other)))] → Q (.ref p) H'
abbrev s_add_multiple : Stmt := top 10
theorem sc_add_multiple : FnScope ["row", "factor", "other", "products", "byte", "more"] ["row", "factor", "other"] (defScope s_add_multiple) := ⟨rfl, rfl, rfl, by decide +kernel, rfl, by decide +kernel, by decide +kernel⟩
theorem ok_add_multiple {f : Addr} {fd : FuncData} (F : Fun K "add_multiple" "add_multiple" s_add_multiple f fd) (T : Txt K mg ad) (C_multiples : Callee P w K mg base 2 "multiples" ["factor"] (sp_multiples K)) : FnOk P w K mg base CX0 3 f fd ["row", "factor", "other"] (sp_add_multiple K) := by
  refine F.ok sc_add_multiple (fun vs H Q E h => ?_) (fun cdv A outer s H vs Q E hr h => ?_)
  · obtain ⟨a, b, row, other, f, rfl, _⟩ := h; rfl
  obtain ⟨a, b, row, other, f, rfl, h1, h2, hf, hl, hz, hb, k⟩ := h
  refine ⟨_, (pss_cons (ps_set (i := 3) sc_add_multiple.nd rfl (Or.inr rfl) (pe_fn C_multiples (hr.mono (by decide)) rfl (pa_cons (pv 1) pa_nil)))
      (pss_one (ps_ret (pe_lc rfl sc_add_multiple.nd (pi_zipK (K := K) rfl rfl T.n_zip (pa_cons (pv 0) (pa_cons (pv 2) pa_nil))) (blkOk_by (own := [("byte", 4), ("more", 5)]) (by show blkC ["row", "factor", "other", "products", "byte", "more"] (defScope s_add_multiple) _ _ = true; decide +kernel)) (fun _ _ _ _ _ => (pg_tupK (K := K) (n := 2) rfl rfl (pgs_cons (pg_name (i := 4) sc_add_multiple.nd rfl (Or.inl rfl)) (pgs_cons (pg_name (i := 5) sc_add_multiple.nd rfl (Or.inl rfl)) pgs_nil)))) (fun _ _ _ _ _ => pts_nil) (fun _ _ _ _ _ => (pe_op op_xor (pv 4) (pe_ix (ix_listK (K := K) rfl) (pv 3) (pv 5) (fun _ _ => rfl)))))))), ?_⟩
  have L0 := Loc.start H
  walk_at "init"
  refine use_multiples L0 hf fun p H1 L1 => ?_
  have tl : (tab f 8).length = 256 := tab_len f 8
  have h1' := L1.arg h1
  have h2' := L1.arg h2
  walk_at "go"
  refine lc_z L1 h1' h2' hl (by rw [sizeLine_eq]; omega) (fun i => row.getD i 0 ^^^ Sy22.mul f (other.getD i 0)) ?_ ?_
  · intro i hi H2 D T o o' R L2 r
    have ho := hb.at_ i
    simp only [wipe, List.foldl_cons, List.foldl_nil, List.set_cons_zero, List.set_cons_succ]
    walk_at "go"
    rw [tab_at ho]
    exact r
  · intro D H2 L2
    exact k D H2 (L2.pick 1 rfl)
theorem use_add_multiple {H H0 : Hp} {ls : List (Addr × HO)} {Q : VK} {E : XK} {a b : Addr} {row other : List Nat} {f : Nat} (L : Loc H0 H ls) (h1 : SqL K H a (nv row)) (h2 : SqL K H b (nv other)) (hf : f < 256) (hl : row.length = other.length) (hz : row.length ≤ 100000) (hb : Bytes other)
    (q : ∀ p H', Loc H0 H' (ls ++ [(p, .lst (nv (addM row f other)))]) → Q (.ref p) H') : sp_add_multiple K ([.ref a, .int (f : Int), .ref b] ++ []) H Q E :=
  ⟨a, b, row, other, f, rfl, h1, h2, hf, hl, hz, hb, fun p H' M => q p H' (L.calls M)⟩
end
end My
end
section
set_option Elab.async false
set_option linter.all false
set_option maxRecDepth 100000
set_option maxHeartbeats 2000000
namespace My
open PySem PySem.Spec PyProof.Rows L2
local macro_rules | `(tactic| walk_at "sq") => `(tactic| first
  | assumption
  | (apply Loc.lst (j := 0) <;> first | assumption | exact rfl)
  | (apply Loc.lst (j := 1) <;> first | assumption | exact rfl)
  | (apply Loc.lst (j := 2) <;> first | assumption | exact rfl)
  | (apply Loc.lst (j := 3) <;> first | assumption | exact rfl)
  | (apply Loc.lst (j := 4) <;> first | assumption | exact rfl)
  | (apply Loc.arg <;> assumption))
local macro_rules | `(tactic| walk_at "hp") => `(tactic| first
  | assumption
  | (apply Loc.get (j := 0) <;> first | assumption | exact rfl)
  | (apply Loc.get (j := 1) <;> first | assumption | exact rfl)
  | (apply Loc.get (j := 2) <;> first | assumption | exact rfl)
  | (apply Loc.get (j := 3) <;> first | assumption | exact rfl)
  | (apply Loc.get (j := 4) <;> first | assumption | exact rfl))
local macro_rules | `(tactic| walk_at "bd") => `(tactic| first
  | omega
  | decide
  | (simp only [nv_len, List.length_append, List.length_cons, List.length_nil, List.length_set, List.length_take, List.length_drop] <;> omega)
  | (simp only [sizeLine_eq, nv_len, List.length_append, List.length_cons, List.length_nil, List.length_set, List.length_take, List.length_drop] <;> omega))
local macro_rules | `(tactic| walk_at "bdW") => `(tactic| first | exact Nat.lt_of_lt_of_le (by first | assumption | omega) (by decide +kernel) | assumption)
local macro_rules | `(tactic| walk_at "lk") => `(tactic| rfl)
local macro_rules | `(tactic| walk_at "lt1000") => `(tactic| exact of_decide_eq_true (by rfl))
local macro_rules | `(tactic| walk_at "fp") => `(tactic| first
  | ((with_reducible apply r_putF (j := 0)); (assumption); (exact rfl); (assumption); (assumption); (walk_at "lt1000"))
  | ((with_reducible apply r_putF (j := 1)); (assumption); (exact rfl); (assumption); (assumption); (walk_at "lt1000"))
  | ((with_reducible apply r_putF (j := 2)); (assumption); (exact rfl); (assumption); (assumption); (walk_at "lt1000")))
local macro_rules | `(tactic| walk_at "app1") => `(tactic| first
  | ((with_reducible apply r_append (j := 0)); (assumption); (exact rfl); (walk_at "bd"))
  | ((with_reducible apply r_append (j := 1)); (assumption); (exact rfl); (walk_at "bd"))
  | ((with_reducible apply r_append (j := 2)); (assumption); (exact rfl); (walk_at "bd"))
  | ((with_reducible apply r_append (j := 3)); (assumption); (exact rfl); (walk_at "bd")))
local macro_rules | `(tactic| walk_at "step") => `(tactic| first
  | ((with_reducible apply r_var); exact rfl)
  | with_reducible apply r_c0
  | with_reducible apply r_cN
  | with_reducible apply r_c
  | with_reducible apply r_op
  | with_reducible apply r_fld
  | ((with_reducible apply r_getF); (walk_at "hp"); (assumption); (assumption); (walk_at "lk"))
  | with_reducible apply s_fld
  | with_reducible apply r_meth
  | ((with_reducible apply r_atM); (walk_at "hp"); (walk_at "lk"))
  | with_reducible apply r_make
  | with_reducible apply r_tB
  | with_reducible apply r_tNot
  | with_reducible apply r_tOr
  | with_reducible apply r_andV
  | with_reducible apply r_chain
  | with_reducible apply r_tTru
  | with_reducible apply r_truN
  | with_reducible apply r_shrN
  | ((with_reducible apply r_shlW); (walk_at "bd"); (walk_at "bdW"))
  | with_reducible apply r_andN
  | with_reducible apply r_orN
  | ((with_reducible apply r_subN); (walk_at "bd"))
  | with_reducible apply r_le
  | with_reducible apply r_gt
  | with_reducible apply r_ge
  | with_reducible apply r_gcons
  | with_reducible apply r_gnil
  | with_reducible apply r_izip
  | ((with_reducible apply r_zipAt); (walk_at "sq"); (walk_at "sq"))
  | with_reducible apply r_un
  | with_reducible apply r_xor
  | with_reducible apply r_addN
  | with_reducible apply r_lt
  | with_reducible apply r_eqN
  | with_reducible apply r_neN
  | ((with_reducible apply r_fdivN); (walk_at "bd"); (walk_at "bd"))
  | ((with_reducible apply r_modN); (walk_at "bd"))
  | ((with_reducible apply r_mulN); (walk_at "bd"))
  | ((with_reducible apply r_shlN); (walk_at "bd"); (walk_at "bd"))
  | with_reducible apply r_i2
  | with_reducible apply r_i1
  | with_reducible apply r_test
  | with_reducible apply r_bl
  | with_reducible apply r_and
  | ((with_reducible apply r_ixN); (walk_at "sq"); (walk_at "bd"))
  | ((with_reducible apply r_ix); (walk_at "sq"); (walk_at "bd"); (walk_at "bd"))
  | ((with_reducible apply r_ixT); (solve_by_elim); (walk_at "bd"))
  | with_reducible apply r_bm
  | ((with_reducible apply r_tyL); (walk_at "sq"))
  | with_reducible apply r_cons
  | with_reducible apply r_nil
  | with_reducible apply r_lst
  | with_reducible apply r_sl
  | with_reducible apply r_noPart
  | with_reducible apply r_part
  | with_reducible apply r_exInt
  | with_reducible apply r_cb
  | with_reducible apply r_call
  | ((with_reducible apply r_lenN); (walk_at "sq"))
  | ((with_reducible apply r_len); (walk_at "sq"))
  | with_reducible apply r_ifE
  | with_reducible apply s_seq
  | with_reducible apply s_asg
  | with_reducible apply s_name
  | with_reducible apply s_ret
  | with_reducible apply s_drop
  | with_reducible apply s_if
  | with_reducible apply s_next
  | with_reducible apply s_sub
  | with_reducible apply s_for
  | with_reducible apply r_rng3
  | with_reducible apply r_rng2
  | with_reducible apply r_rng1
  | with_reducible apply r_ilist
  | with_reducible apply r_ituple
  | with_reducible apply r_lc
  | ((with_reducible apply r_isq); (walk_at "sq"))
  | ((with_reducible apply r_ist); (solve_by_elim))
  | dsimp only [List.set_cons_zero, List.set_cons_succ])
local macro_rules | `(tactic| walk_at "go") => `(tactic| repeat walk_at "step")
local macro_rules | `(tactic| walk_at "b256") => `(tactic| (repeat (first | assumption | apply xor256 | apply twice_lt | apply Bytes.at_)))
local macro_rules | `(tactic| walk_at "app") => `(tactic| (walk_at "go"; walk_at "app1"; intro H' L'; simp only [nv_snoc, List.set_cons_zero, List.set_cons_succ] at L'; try walk_at "go"))
local macro_rules | `(tactic| walk_at "init") => `(tactic| (dsimp only [cxOf, L2.start, List.map, List.map_cons, List.map_nil, List.length_cons, List.length_nil, List.cons_append, List.nil_append, Nat.zero_add, Nat.reduceAdd, Nat.reduceSub, List.replicate_succ, List.replicate_zero]; walk_at "go"))
local macro_rules | `(tactic| walk_at "new") => `(tactic| (apply r_new; (assumption); (walk_at "bd"); intro p' H' L'; simp only [List.nil_append, List.cons_append] at L'))
local macro_rules | `(tactic| walk_at "subl") => `(tactic| (repeat (first | exact List.nil_sublist _ | apply List.Sublist.cons_cons | apply List.Sublist.cons)))
local macro_rules | `(tactic| walk_at "seti") => `(tactic| first
  | ((with_reducible apply r_setL (j := 0)); (assumption); (exact rfl); (walk_at "bd"))
  | ((with_reducible apply r_setL (j := 1)); (assumption); (exact rfl); (walk_at "bd"))
  | ((with_reducible apply r_setL (j := 2)); (assumption); (exact rfl); (walk_at "bd"))
  | ((with_reducible apply r_setL (j := 3)); (assumption); (exact rfl); (walk_at "bd")))

section
variable {P : Program} {w : World} {K : PySem.W.Frag} {mg : Str → Option Value} {base : Heap} {ad : Adr}
/-! make_share -/
structure Dat (rows : List (List Nat)) (len : Nat) : Prop where
  pos : 1 ≤ rows.length
  most : rows.length ≤ 32
  lens : ∀ r ∈ rows, r.length = len ∧ Bytes r
theorem rowFor_hi {k place : Nat} (h : k ≤ place) : Sy22.rowFor k place = (List.range k).map fun j => Sy22.inv (place ^^^ j) := by
  unfold Sy22.rowFor
  exact List.map_congr_left fun j _ => if_neg (by omega)
theorem nv_get' {xs : List Nat} {i : Nat} {v : V} (h : (nv xs)[i]? = some v) : v = .int ((xs.getD i 0 : Nat) : Int) := (nv_of_get h).2
def sp_make_share (K : PySem.W.Frag) : Sp := fun vs H Q _ => ∃ (a : Addr) (as : List Addr) (rows : List (List Nat)) (len place : Nat), vs = [.ref a, .int (place : Int)] ∧ Rows K H a as rows ∧ Dat rows len ∧ len ≤ 1000 ∧ rows.length ≤ place ∧ place < 64 ∧ ∀ p H', Loc H H' [(p, .lst (nv (shN rows rows.length place len rows.length)))] → Q (.ref p) H'
abbrev s_make_share : Stmt := top 11
theorem sc_make_share : FnScope ["data", "place", "share", "factor", "piece"] ["data", "place"] (defScope s_make_share) := ⟨rfl, rfl, rfl, by decide +kernel, rfl, by decide +kernel, by decide +kernel⟩
theorem ok_make_share {f : Addr} {fd : FuncData} (F : Fun K "make_share" "make_share" s_make_share f fd) (T : Txt K mg ad) (C_factors_of : Callee P w K mg base 4 "factors_of" ["k", "place"] (sp_factors_of K)) (C_add_multiple : Callee P w K mg base 3 "add_multiple" ["row", "factor", "other"] (sp_add_multiple K)) : FnOk P w K mg base CX0 5 f fd ["data", "place"] (sp_make_share K) := by
  refine F.ok sc_make_share (fun vs H Q E h => ?_) (fun cdv A outer s H vs Q E hr h => ?_)
  · obtain ⟨a, as, rows, len, place, rfl, _⟩ := h; rfl
  obtain ⟨a, as, rows, len, place, rfl, hR, hD, hlen, hp1, hp2, k⟩ := h
  refine ⟨_, (pss_cons (ps_set (i := 2) sc_make_share.nd rfl (Or.inl rfl) (pe_op op_rep (pe_lst (pa_cons pe_int pa_nil)) (pe_callB (c_lenK (K := K) rfl) (by rfl) T.n_len b_len (pa_cons (pe_ix (ix_listK (K := K) rfl) (pv 0) pe_int (fun _ _ => rfl)) pa_nil))))
      (pss_cons (ps_for PassesOwn.never rfl (pi_zipK (K := K) rfl rfl T.n_zip (pa_cons (pe_fn C_factors_of (hr.mono (by decide)) rfl (pa_cons (pe_callB (c_lenK (K := K) rfl) (by rfl) T.n_len b_len (pa_cons (pv 0) pa_nil)) (pa_cons (pv 1) pa_nil))) (pa_cons (pv 0) pa_nil))) (pg_tupK (K := K) (n := 2) rfl rfl (pgs_cons (pg_name (i := 3) sc_make_share.nd rfl (Or.inl rfl)) (pgs_cons (pg_name (i := 4) sc_make_share.nd rfl (Or.inl rfl)) pgs_nil))) (pss_one (ps_set (i := 2) sc_make_share.nd rfl (Or.inl rfl) (pe_fn C_add_multiple (hr.mono (by decide)) rfl (pa_cons (pv 2) (pa_cons (pv 3) (pa_cons (pv 4) pa_nil)))))))
      (pss_one (ps_ret (pv 2))))), ?_⟩
  have L0 := Loc.start H
  have hs := hR.lst
  have hpos := hD.pos
  have hmost := hD.most
  have hal := hR.len
  obtain ⟨a0, ha0⟩ : ∃ a0, as[0]? = some a0 := ⟨as[0]'(by omega), List.getElem?_eq_getElem (by omega)⟩
  have hr0 : rows[0]? = some (rows[0]'(by omega)) := List.getElem?_eq_getElem (by omega)
  have h0 := hR.at_ 0 a0 _ ha0 hr0
  have hl0 := (hD.lens _ (List.mem_of_getElem? hr0)).1
  walk_at "init"
  apply r_new L0 (by show 1 ≤ sizeLine; decide)
  intro p H1 L1
  walk_at "go"
  have hs1 := L1.arg hs
  refine r_ixR (n := 0) hs1 ha0 ?_
  walk_at "go"
  refine r_lenN (SqL.of (L1.same _ _ h0)) ?_
  rw [hl0]
  refine r_rep (x := 0) L1 0 rfl (by rw [sizeLine_eq]; omega) fun p2 H2 L2 => ?_
  have hs2 := L2.arg hs
  walk_at "go"
  rw [refs_len, hal]
  refine use_factors_of L2 (by omega) (by omega) fun p3 H3 L3 => ?_
  have hs3 := L3.arg hs
  walk_at "go"
  rw [rowFor_hi hp1] at L3
  have hfac : SqL K H3 p3 (nv ((List.range rows.length).map fun j => Sy22.inv (place ^^^ j))) := L3.lst 2 rfl
  refine f_zip (xs := nv ((List.range rows.length).map fun j => Sy22.inv (place ^^^ j))) (ys := refs as) rows.length (by rw [nv_len, refs_len, List.length_map, List.length_range, hal, Nat.min_self])
    (fun i σ H' => ∃ (q : Addr) (v3 v4 : Option V), σ = [some (.ref a), some (.int (place : Int)), some (.ref q), v3, v4] ∧ Same H3 H' ∧ Loc H H' [(q, .lst (nv (shN rows rows.length place len i)))]) ?_ ?_ ?_ ?_
  · refine ⟨p2, _, _, rfl, fun _ _ e => e, ?_⟩
    rw [shN_zero]
    exact L3.pick 1 rfl
  · rintro i σ H' hi ⟨q, v3, v4, rfl, sm, L⟩
    exact ⟨sm.seq hfac, L.arg hs⟩
  · rintro i x y σ H4 T hi hx hy ⟨q, v3, v4, rfl, sm4, L4⟩ hT
    have hx := nv_get' hx
    subst hx
    rw [getD_map_range hi]
    unfold refs at hy
    rw [List.getElem?_map] at hy
    obtain ⟨r, hi2, rfl⟩ : ∃ r, as[i]? = some r ∧ V.ref r = y := by
      cases e : as[i]? with
      | none => rw [e] at hy; cases hy
      | some r => rw [e] at hy; exact ⟨r, rfl, Option.some.inj hy⟩
    have M5 : Loc H4 _ _ := (Loc.start H4).new (o := .tup [V.int ((Sy22.inv (place ^^^ i) : Nat) : Int), V.ref r]) hT
    have L5 := L4.calls M5
    have hri : rows[i]? = some rows[i] := List.getElem?_eq_getElem hi
    have hmem := hR.at_ i r rows[i] hi2 hri
    obtain ⟨hli, hbi⟩ := hD.lens _ (List.mem_of_getElem? hri)
    have hxl : place ^^^ i < 256 := Nat.lt_of_lt_of_le (Nat.xor_lt_two_pow (n := 6) hp2 (by omega)) (by decide)
    refine r_tupl (.inl (.inl (L5.get 1 rfl))) rfl ?_
    walk_at "go"
    refine use_add_multiple (Loc.start _) (L5.lst 0 rfl) (SqL.of (L5.same _ _ hmem)) (inv_lt hxl) (by rw [shN_len, hli]) (by rw [shN_len]; omega) hbi fun q2 H6 M6 => ?_
    have e : addM (shN rows rows.length place len i) (Sy22.inv (place ^^^ i)) rows[i] = shN rows rows.length place len (i + 1) := by
      rw [← shN_succ, show rows.getD i [] = rows[i] by simp [hi]]
    rw [e] at M6
    walk_at "go"
    exact ⟨q2, _, _, rfl, sm4.trans (M5.same.trans M6.same), L5.then M6⟩
  · rintro σ H4 ⟨q, v3, v4, rfl, sm4, L4⟩
    walk_at "go"
    exact k q H4 L4
theorem use_make_share {H H0 : Hp} {ls : List (Addr × HO)} {Q : VK} {E : XK} {a : Addr} {as : List Addr} {rows : List (List Nat)} {len place : Nat} (L : Loc H0 H ls) (hR : Rows K H a as rows) (hD : Dat rows len) (hlen : len ≤ 1000) (h1 : rows.length ≤ place) (h2 : place < 64)
    (q : ∀ p H', Loc H0 H' (ls ++ [(p, .lst (nv (shN rows rows.length place len rows.length)))]) → Q (.ref p) H') : sp_make_share K ([.ref a, .int (place : Int)] ++ []) H Q E :=
  ⟨a, as, rows, len, place, rfl, hR, hD, hlen, h1, h2, fun p H' M => q p H' (L.calls M)⟩
/-! make_shares -/
def sp_make_shares (K : PySem.W.Frag) : Sp := fun vs H Q _ => ∃ (a : Addr) (as : List Addr) (rows : List (List Nat)) (len m : Nat), vs = [.ref a, .int (m : Int)] ∧ Rows K H a as rows ∧ Dat rows len ∧ len ≤ 1000 ∧ rows.length + m ≤ 32 ∧ ∀ p bs H' ms, Loc H H' ms → Rows K H' p bs (Sy22.shares m len rows) → Q (.ref p) H'
abbrev s_make_shares : Stmt := top 12
theorem sc_make_shares : FnScope ["data", "m", "k", "place"] ["data", "m"] (defScope s_make_shares) := ⟨rfl, rfl, rfl, by decide +kernel, rfl, by decide +kernel, by decide +kernel⟩
theorem ok_make_shares {f : Addr} {fd : FuncData} (F : Fun K "make_shares" "make_shares" s_make_shares f fd) (T : Txt K mg ad) (C_make_share : Callee P w K mg base 5 "make_share" ["data", "place"] (sp_make_share K)) : FnOk P w K mg base CX0 6 f fd ["data", "m"] (sp_make_shares K) := by
  refine F.ok sc_make_shares (fun vs H Q E h => ?_) (fun cdv A outer s H vs Q E hr h => ?_)
  · obtain ⟨a, as, rows, len, m, rfl, _⟩ := h; rfl
  obtain ⟨a, as, rows, len, m, rfl, hR, hD, hlen, hm, k⟩ := h
  refine ⟨_, (pss_cons (ps_set (i := 2) sc_make_shares.nd rfl (Or.inl rfl) (pe_callB (c_lenK (K := K) rfl) (by rfl) T.n_len b_len (pa_cons (pv 0) pa_nil)))
      (pss_one (ps_ret (pe_op (op_catK (K := K) rfl) (pv 0) (pe_lc rfl sc_make_shares.nd (pi_range2 rfl T.n_range (pa_cons (pv 2) (pa_cons (pe_op op_add (pv 2) (pv 1)) pa_nil))) (blkOk_by (own := [("place", 3)]) (by show blkC ["data", "m", "k", "place"] (defScope s_make_shares) _ _ = true; decide +kernel)) (fun _ _ _ _ _ => pg_name (i := 3) sc_make_shares.nd rfl (Or.inl rfl)) (fun _ _ _ _ _ => pts_nil) (fun _ _ _ _ _ => (pe_fn C_make_share (hr.mono (by decide)) rfl (pa_cons (pv 0) (pa_cons (pv 3) pa_nil))))))))), ?_⟩
  have L0 := Loc.start H
  have hs := hR.lst
  have hal := hR.len
  walk_at "init"
  rw [refs_len, hal]
  refine ⟨_, _, rfl, by omega, ?_⟩
  have e1 : (((rows.length + m : Nat) : Int) - (rows.length : Int)).toNat = m := by omega
  rw [e1]
  refine lc_rowsR L0 (by rw [sizeLine_eq]; omega) (fun i => Sy22.share rows len i) ?_ ?_
  · intro i hi H1 R sm r
    rw [show ((rows.length : Int) + (i : Int)) = ((rows.length + i : Nat) : Int) by omega]
    walk_at "go"
    refine use_make_share (Loc.start H1) (hR.mono sm) hD hlen (by omega) (by omega) fun p H2 L2 => ?_
    rw [shN_share rfl] at L2
    exact r p H2 L2
  · intro D bs H1 hbl L1
    have hs1 := L1.arg hs
    walk_at "go"
    refine r_catK (xs := refs as) (ys := refs bs) L1 hs1 (L1.lst 0 rfl) (by rw [refs_len, refs_len, sizeLine_eq]; omega) fun p H2 L2 => ?_
    rw [refs_app] at L2
    walk_at "go"
    have hlp : ((([] : List (Addr × HO)) ++ (D, HO.lst (refs bs)) :: rowO bs ((List.range m).map fun i => Sy22.share rows len i)) ++ [(p, HO.lst (refs (as ++ bs)))])[(rowO bs ((List.range m).map fun i => Sy22.share rows len i)).length + 1]? = some (p, .lst (refs (as ++ bs))) := by simp
    refine k p (as ++ bs) H2 _ L2 ⟨L2.lst _ hlp, by unfold Sy22.shares; simp [hal, hbl], fun i x r hx hr => ?_⟩
    unfold Sy22.shares at hr
    by_cases hi : i < as.length
    · rw [List.getElem?_append_left hi] at hx
      rw [List.getElem?_append_left (by omega)] at hr
      exact L2.same _ _ (hR.at_ i x r hx hr)
    · rw [List.getElem?_append_right (by omega)] at hx
      rw [List.getElem?_append_right (by omega)] at hr
      rw [← hal] at hr
      refine (L2.at_ (x, .lst (nv r)) ?_).2
      exact List.mem_append_left _ (List.mem_cons_of_mem _ (List.mem_of_getElem? (rowO_at hx hr)))
theorem use_make_shares {H H0 : Hp} {ls : List (Addr × HO)} {Q : VK} {E : XK} {a : Addr} {as : List Addr} {rows : List (List Nat)} {len m : Nat} (L : Loc H0 H ls) (hR : Rows K H a as rows) (hD : Dat rows len) (hlen : len ≤ 1000) (hm : rows.length + m ≤ 32)
    (q : ∀ p bs H', Loc H0 H' ls → Rows K H' p bs (Sy22.shares m len rows) → Q (.ref p) H') : sp_make_shares K ([.ref a, .int (m : Int)] ++ []) H Q E :=
  ⟨a, as, rows, len, m, rfl, hR, hD, hlen, hm, fun p bs H' ms M => q p bs H' ((L.calls M).sub (List.sublist_append_left _ _))⟩
end
end My
end
section
set_option Elab.async false
set_option linter.all false
set_option maxRecDepth 100000
set_option maxHeartbeats 2000000
namespace My
open PySem PySem.Spec PyProof.Rows L2
local macro_rules | `(tactic| walk_at "sq") => `(tactic| first
  | assumption
  | (apply Loc.lst (j := 0) <;> first | assumption | exact rfl)
  | (apply Loc.lst (j := 1) <;> first | assumption | exact rfl)
  | (apply Loc.lst (j := 2) <;> first | assumption | exact rfl)
  | (apply Loc.lst (j := 3) <;> first | assumption | exact rfl)
  | (apply Loc.lst (j := 4) <;> first | assumption | exact rfl)
  | (apply Loc.arg <;> assumption))
local macro_rules | `(tactic| walk_at "hp") => `(tactic| first
  | assumption
  | (apply Loc.get (j := 0) <;> first | assumption | exact rfl)
  | (apply Loc.get (j := 1) <;> first | assumption | exact rfl)
  | (apply Loc.get (j := 2) <;> first | assumption | exact rfl)
  | (apply Loc.get (j := 3) <;> first | assumption | exact rfl)
  | (apply Loc.get (j := 4) <;> first | assumption | exact rfl))
local macro_rules | `(tactic| walk_at "bd") => `(tactic| first
  | omega
  | decide
  | (simp only [nv_len, List.length_append, List.length_cons, List.length_nil, List.length_set, List.length_take, List.length_drop] <;> omega)
  | (simp only [sizeLine_eq, nv_len, List.length_append, List.length_cons, List.length_nil, List.length_set, List.length_take, List.length_drop] <;> omega))
local macro_rules | `(tactic| walk_at "bdW") => `(tactic| first | exact Nat.lt_of_lt_of_le (by first | assumption | omega) (by decide +kernel) | assumption)
local macro_rules | `(tactic| walk_at "lk") => `(tactic| rfl)
local macro_rules | `(tactic| walk_at "lt1000") => `(tactic| exact of_decide_eq_true (by rfl))
local macro_rules | `(tactic| walk_at "fp") => `(tactic| first
  | ((with_reducible apply r_putF (j := 0)); (assumption); (exact rfl); (assumption); (assumption); (walk_at "lt1000"))
  | ((with_reducible apply r_putF (j := 1)); (assumption); (exact rfl); (assumption); (assumption); (walk_at "lt1000"))
  | ((with_reducible apply r_putF (j := 2)); (assumption); (exact rfl); (assumption); (assumption); (walk_at "lt1000")))
local macro_rules | `(tactic| walk_at "app1") => `(tactic| first
  | ((with_reducible apply r_append (j := 0)); (assumption); (exact rfl); (walk_at "bd"))
  | ((with_reducible apply r_append (j := 1)); (assumption); (exact rfl); (walk_at "bd"))
  | ((with_reducible apply r_append (j := 2)); (assumption); (exact rfl); (walk_at "bd"))
  | ((with_reducible apply r_append (j := 3)); (assumption); (exact rfl); (walk_at "bd")))
local macro_rules | `(tactic| walk_at "step") => `(tactic| first
  | ((with_reducible apply r_var); exact rfl)
  | with_reducible apply r_c0
  | with_reducible apply r_cN
  | with_reducible apply r_c
  | with_reducible apply r_op
  | with_reducible apply r_fld
  | ((with_reducible apply r_getF); (walk_at "hp"); (assumption); (assumption); (walk_at "lk"))
  | with_reducible apply s_fld
  | with_reducible apply r_meth
  | ((with_reducible apply r_atM); (walk_at "hp"); (walk_at "lk"))
  | with_reducible apply r_make
  | with_reducible apply r_tB
  | with_reducible apply r_tNot
  | with_reducible apply r_tOr
  | with_reducible apply r_andV
  | with_reducible apply r_chain
  | with_reducible apply r_tTru
  | with_reducible apply r_truN
  | with_reducible apply r_shrN
  | ((with_reducible apply r_shlW); (walk_at "bd"); (walk_at "bdW"))
  | with_reducible apply r_andN
  | with_reducible apply r_orN
  | ((with_reducible apply r_subN); (walk_at "bd"))
  | with_reducible apply r_le
  | with_reducible apply r_gt
  | with_reducible apply r_ge
  | with_reducible apply r_gcons
  | with_reducible apply r_gnil
  | with_reducible apply r_izip
  | ((with_reducible apply r_zipAt); (walk_at "sq"); (walk_at "sq"))
  | with_reducible apply r_un
  | with_reducible apply r_xor
  | with_reducible apply r_addN
  | with_reducible apply r_lt
  | with_reducible apply r_eqN
  | with_reducible apply r_neN
  | ((with_reducible apply r_fdivN); (walk_at "bd"); (walk_at "bd"))
  | ((with_reducible apply r_modN); (walk_at "bd"))
  | ((with_reducible apply r_mulN); (walk_at "bd"))
  | ((with_reducible apply r_shlN); (walk_at "bd"); (walk_at "bd"))
  | with_reducible apply r_i2
  | with_reducible apply r_i1
  | with_reducible apply r_test
  | with_reducible apply r_bl
  | with_reducible apply r_and
  | ((with_reducible apply r_ixN); (walk_at "sq"); (walk_at "bd"))
  | ((with_reducible apply r_ix); (walk_at "sq"); (walk_at "bd"); (walk_at "bd"))
  | ((with_reducible apply r_ixT); (solve_by_elim); (walk_at "bd"))
  | with_reducible apply r_bm
  | ((with_reducible apply r_tyL); (walk_at "sq"))
  | with_reducible apply r_cons
  | with_reducible apply r_nil
  | with_reducible apply r_lst
  | with_reducible apply r_sl
  | with_reducible apply r_noPart
  | with_reducible apply r_part
  | with_reducible apply r_exInt
  | with_reducible apply r_cb
  | with_reducible apply r_call
  | ((with_reducible apply r_lenN); (walk_at "sq"))
  | ((with_reducible apply r_len); (walk_at "sq"))
  | with_reducible apply r_ifE
  | with_reducible apply s_seq
  | with_reducible apply s_asg
  | with_reducible apply s_name
  | with_reducible apply s_ret
  | with_reducible apply s_drop
  | with_reducible apply s_if
  | with_reducible apply s_next
  | with_reducible apply s_sub
  | with_reducible apply s_for
  | with_reducible apply r_rng3
  | with_reducible apply r_rng2
  | with_reducible apply r_rng1
  | with_reducible apply r_ilist
  | with_reducible apply r_ituple
  | with_reducible apply r_lc
  | ((with_reducible apply r_isq); (walk_at "sq"))
  | ((with_reducible apply r_ist); (solve_by_elim))
  | dsimp only [List.set_cons_zero, List.set_cons_succ])
local macro_rules | `(tactic| walk_at "go") => `(tactic| repeat walk_at "step")
local macro_rules | `(tactic| walk_at "b256") => `(tactic| (repeat (first | assumption | apply xor256 | apply twice_lt | apply Bytes.at_)))
local macro_rules | `(tactic| walk_at "app") => `(tactic| (walk_at "go"; walk_at "app1"; intro H' L'; simp only [nv_snoc, List.set_cons_zero, List.set_cons_succ] at L'; try walk_at "go"))
local macro_rules | `(tactic| walk_at "init") => `(tactic| (dsimp only [cxOf, L2.start, List.map, List.map_cons, List.map_nil, List.length_cons, List.length_nil, List.cons_append, List.nil_append, Nat.zero_add, Nat.reduceAdd, Nat.reduceSub, List.replicate_succ, List.replicate_zero]; walk_at "go"))
local macro_rules | `(tactic| walk_at "new") => `(tactic| (apply r_new; (assumption); (walk_at "bd"); intro p' H' L'; simp only [List.nil_append, List.cons_append] at L'))
local macro_rules | `(tactic| walk_at "subl") => `(tactic| (repeat (first | exact List.nil_sublist _ | apply List.Sublist.cons_cons | apply List.Sublist.cons)))
local macro_rules | `(tactic| walk_at "seti") => `(tactic| first
  | ((with_reducible apply r_setL (j := 0)); (assumption); (exact rfl); (walk_at "bd"))
  | ((with_reducible apply r_setL (j := 1)); (assumption); (exact rfl); (walk_at "bd"))
  | ((with_reducible apply r_setL (j := 2)); (assumption); (exact rfl); (walk_at "bd"))
  | ((with_reducible apply r_setL (j := 3)); (assumption); (exact rfl); (walk_at "bd")))

section
variable {P : Program} {w : World} {K : PySem.W.Frag} {mg : Str → Option Value} {base : Heap} {ad : Adr}
theorem cutR_dat {data : List Nat} {n size : Nat} (hb : Bytes data) (hl : n * size ≤ data.length) (h1 : 1 ≤ n) (h2 : n ≤ 32) : Dat (cutR data size n) size := by
  refine ⟨by unfold cutR; simpa using h1, by unfold cutR; simpa using h2, fun r hr => ?_⟩
  unfold cutR at hr
  obtain ⟨i, hi, rfl⟩ := List.mem_map.mp hr
  have hi := List.mem_range.mp hi
  have : size * (i + 1) ≤ size * n := Nat.mul_le_mul_left _ hi
  rw [Nat.mul_succ] at this
  rw [Nat.mul_comm n size] at hl
  exact ⟨part_len (by omega), part_bytes hb _ _⟩
theorem cutR_len (data : List Nat) (size n : Nat) : (cutR data size n).length = n := by unfold cutR; simp
theorem refs_cut {as : List Addr} {a : Int} (ha : 0 ≤ a) (h : a ≤ as.length) : cutV (refs as) (some a) none = refs (as.drop a.toNat) := by
  have hl := refs_len as
  unfold cutV
  have e1 : HT.sIx (refs as).length 0 (some a) = a.toNat := by
    show (if a < 0 then _ else _) = _
    rw [if_neg (by omega)]
    omega
  rw [e1, HT.sIx_none]
  unfold refs
  rw [List.map_drop]
  exact List.take_of_length_le (by simp)
theorem refs_drop {as : List Addr} {k : Nat} (h : k ≤ as.length) : cutV (refs as) (some (k : Int)) none = refs (as.drop k) := refs_cut (by omega) (by omega)
theorem Rows.dropped {H : Hp} {p q : Addr} {as : List Addr} {rows : List (List Nat)} (h : Rows K H p as rows) (k : Nat) (hq : SqL K H q (refs (as.drop k))) : Rows K H q (as.drop k) (rows.drop k) :=
  ⟨hq, by rw [List.length_drop, List.length_drop, h.len], fun i a r h1 h2 => by
    rw [List.getElem?_drop] at h1 h2
    exact h.at_ (k + i) a r h1 h2⟩
theorem share_len (rows : List (List Nat)) (len i : Nat) : (Sy22.share rows len i).length = len := by unfold Sy22.share; simp
theorem flat_same {rows : List (List Nat)} {len : Nat} (h : ∀ r ∈ rows, r.length = len) : rows.flatten.length = rows.length * len := by
  induction rows with
  | nil => simp
  | cons a rows ih => rw [List.flatten_cons, List.length_append, ih fun r hr => h r (List.mem_cons_of_mem _ hr), h a List.mem_cons_self, List.length_cons, Nat.succ_mul, Nat.add_comm]
end
end My
end
section
set_option Elab.async false
set_option linter.all false
set_option maxRecDepth 100000
set_option maxHeartbeats 2000000
namespace My
open PySem PySem.Spec PyProof.Rows L2
local macro_rules | `(tactic| walk_at "sq") => `(tactic| first
  | assumption
  | (apply Loc.lst (j := 0) <;> first | assumption | exact rfl)
  | (apply Loc.lst (j := 1) <;> first | assumption | exact rfl)
  | (apply Loc.lst (j := 2) <;> first | assumption | exact rfl)
  | (apply Loc.lst (j := 3) <;> first | assumption | exact rfl)
  | (apply Loc.lst (j := 4) <;> first | assumption | exact rfl)
  | (apply Loc.arg <;> assumption))
local macro_rules | `(tactic| walk_at "hp") => `(tactic| first
  | assumption
  | (apply Loc.get (j := 0) <;> first | assumption | exact rfl)
  | (apply Loc.get (j := 1) <;> first | assumption | exact rfl)
  | (apply Loc.get (j := 2) <;> first | assumption | exact rfl)
  | (apply Loc.get (j := 3) <;> first | assumption | exact rfl)
  | (apply Loc.get (j := 4) <;> first | assumption | exact rfl))
local macro_rules | `(tactic| walk_at "bd") => `(tactic| first
  | omega
  | decide
  | (simp only [nv_len, List.length_append, List.length_cons, List.length_nil, List.length_set, List.length_take, List.length_drop] <;> omega)
  | (simp only [sizeLine_eq, nv_len, List.length_append, List.length_cons, List.length_nil, List.length_set, List.length_take, List.length_drop] <;> omega))
local macro_rules | `(tactic| walk_at "bdW") => `(tactic| first | exact Nat.lt_of_lt_of_le (by first | assumption | omega) (by decide +kernel) | assumption)
local macro_rules | `(tactic| walk_at "lk") => `(tactic| rfl)
local macro_rules | `(tactic| walk_at "lt1000") => `(tactic| exact of_decide_eq_true (by rfl))
local macro_rules | `(tactic| walk_at "fp") => `(tactic| first
  | ((with_reducible apply r_putF (j := 0)); (assumption); (exact rfl); (assumption); (assumption); (walk_at "lt1000"))
  | ((with_reducible apply r_putF (j := 1)); (assumption); (exact rfl); (assumption); (assumption); (walk_at "lt1000"))
  | ((with_reducible apply r_putF (j := 2)); (assumption); (exact rfl); (assumption); (assumption); (walk_at "lt1000")))
local macro_rules | `(tactic| walk_at "app1") => `(tactic| first
  | ((with_reducible apply r_append (j := 0)); (assumption); (exact rfl); (walk_at "bd"))
  | ((with_reducible apply r_append (j := 1)); (assumption); (exact rfl); (walk_at "bd"))
  | ((with_reducible apply r_append (j := 2)); (assumption); (exact rfl); (walk_at "bd"))
  | ((with_reducible apply r_append (j := 3)); (assumption); (exact rfl); (walk_at "bd")))
local macro_rules | `(tactic| walk_at "step") => `(tactic| first
  | ((with_reducible apply r_var); exact rfl)
  | with_reducible apply r_c0
  | with_reducible apply r_cN
  | with_reducible apply r_c
  | with_reducible apply r_op
  | with_reducible apply r_fld
  | ((with_reducible apply r_getF); (walk_at "hp"); (assumption); (assumption); (walk_at "lk"))
  | with_reducible apply s_fld
  | with_reducible apply r_meth
  | ((with_reducible apply r_atM); (walk_at "hp"); (walk_at "lk"))
  | with_reducible apply r_make
  | with_reducible apply r_tB
  | with_reducible apply r_tNot
  | with_reducible apply r_tOr
  | with_reducible apply r_andV
  | with_reducible apply r_chain
  | with_reducible apply r_tTru
  | with_reducible apply r_truN
  | with_reducible apply r_shrN
  | ((with_reducible apply r_shlW); (walk_at "bd"); (walk_at "bdW"))
  | with_reducible apply r_andN
  | with_reducible apply r_orN
  | ((with_reducible apply r_subN); (walk_at "bd"))
  | with_reducible apply r_le
  | with_reducible apply r_gt
  | with_reducible apply r_ge
  | with_reducible apply r_gcons
  | with_reducible apply r_gnil
  | with_reducible apply r_izip
  | ((with_reducible apply r_zipAt); (walk_at "sq"); (walk_at "sq"))
  | with_reducible apply r_un
  | with_reducible apply r_xor
  | with_reducible apply r_addN
  | with_reducible apply r_lt
  | with_reducible apply r_eqN
  | with_reducible apply r_neN
  | ((with_reducible apply r_fdivN); (walk_at "bd"); (walk_at "bd"))
  | ((with_reducible apply r_modN); (walk_at "bd"))
  | ((with_reducible apply r_mulN); (walk_at "bd"))
  | ((with_reducible apply r_shlN); (walk_at "bd"); (walk_at "bd"))
  | with_reducible apply r_i2
  | with_reducible apply r_i1
  | with_reducible apply r_test
  | with_reducible apply r_bl
  | with_reducible apply r_and
  | ((with_reducible apply r_ixN); (walk_at "sq"); (walk_at "bd"))
  | ((with_reducible apply r_ix); (walk_at "sq"); (walk_at "bd"); (walk_at "bd"))
  | ((with_reducible apply r_ixT); (solve_by_elim); (walk_at "bd"))
  | with_reducible apply r_bm
  | ((with_reducible apply r_tyL); (walk_at "sq"))
  | with_reducible apply r_cons
  | with_reducible apply r_nil
  | with_reducible apply r_lst
  | with_reducible apply r_sl
  | with_reducible apply r_noPart
  | with_reducible apply r_part
  | with_reducible apply r_exInt
  | with_reducible apply r_cb
  | with_reducible apply r_call
  | ((with_reducible apply r_lenN); (walk_at "sq"))
  | ((with_reducible apply r_len); (walk_at "sq"))
  | with_reducible apply r_ifE
  | with_reducible apply s_seq
  | with_reducible apply s_asg
  | with_reducible apply s_name
  | with_reducible apply s_ret
  | with_reducible apply s_drop
  | with_reducible apply s_if
  | with_reducible apply s_next
  | with_reducible apply s_sub
  | with_reducible apply s_for
  | with_reducible apply r_rng3
  | with_reducible apply r_rng2
  | with_reducible apply r_rng1
  | with_reducible apply r_ilist
  | with_reducible apply r_ituple
  | with_reducible apply r_lc
  | ((with_reducible apply r_isq); (walk_at "sq"))
  | ((with_reducible apply r_ist); (solve_by_elim))
  | dsimp only [List.set_cons_zero, List.set_cons_succ])
local macro_rules | `(tactic| walk_at "go") => `(tactic| repeat walk_at "step")
local macro_rules | `(tactic| walk_at "b256") => `(tactic| (repeat (first | assumption | apply xor256 | apply twice_lt | apply Bytes.at_)))
local macro_rules | `(tactic| walk_at "app") => `(tactic| (walk_at "go"; walk_at "app1"; intro H' L'; simp only [nv_snoc, List.set_cons_zero, List.set_cons_succ] at L'; try walk_at "go"))
local macro_rules | `(tactic| walk_at "init") => `(tactic| (dsimp only [cxOf, L2.start, List.map, List.map_cons, List.map_nil, List.length_cons, List.length_nil, List.cons_append, List.nil_append, Nat.zero_add, Nat.reduceAdd, Nat.reduceSub, List.replicate_succ, List.replicate_zero]; walk_at "go"))
local macro_rules | `(tactic| walk_at "new") => `(tactic| (apply r_new; (assumption); (walk_at "bd"); intro p' H' L'; simp only [List.nil_append, List.cons_append] at L'))
local macro_rules | `(tactic| walk_at "subl") => `(tactic| (repeat (first | exact List.nil_sublist _ | apply List.Sublist.cons_cons | apply List.Sublist.cons)))
local macro_rules | `(tactic| walk_at "seti") => `(tactic| first
  | ((with_reducible apply r_setL (j := 0)); (assumption); (exact rfl); (walk_at "bd"))
  | ((with_reducible apply r_setL (j := 1)); (assumption); (exact rfl); (walk_at "bd"))
  | ((with_reducible apply r_setL (j := 2)); (assumption); (exact rfl); (walk_at "bd"))
  | ((with_reducible apply r_setL (j := 3)); (assumption); (exact rfl); (walk_at "bd")))

section
variable {P : Program} {w : World} {K : PySem.W.Frag} {mg : Str → Option Value} {base : Heap} {ad : Adr}
/-! solve -/
structure RowsE (H : Hp) (p : Addr) (as : List Addr) (R : List (List Nat)) : Prop where
  len : as.length = R.length
  at_ : ∀ (i : Nat) (a : Addr) (r : List Nat), as[i]? = some a → R[i]? = some r → er H p a = some (.lst (nv r))
theorem RowsE.mono {H H' : Hp} {p : Addr} {as : List Addr} {R : List (List Nat)} (h : RowsE H p as R) (e : Same (er H p) (er H' p)) : RowsE H' p as R := ⟨h.len, fun i a r h1 h2 => e _ _ (h.at_ i a r h1 h2)⟩
theorem RowsE.set {H H' : Hp} {p q : Addr} {as : List Addr} {R : List (List Nat)} {r : List Nat} (h : RowsE H p as R) (e : Same (er H p) (er H' p)) (n : Nat) (hq : er H' p q = some (.lst (nv r))) : RowsE H' p (as.set n q) (R.set n r) := by
  refine ⟨by rw [List.length_set, List.length_set, h.len], fun i a r' h1 h2 => ?_⟩
  by_cases hi : n = i
  · subst hi
    have hl : n < as.length := by
      have := (List.getElem?_eq_some_iff.mp h1).1
      rwa [List.length_set] at this
    rw [List.getElem?_set_self hl] at h1
    rw [List.getElem?_set_self (by rw [← h.len]; exact hl)] at h2
    cases h1
    cases h2
    exact hq
  · rw [List.getElem?_set_ne hi] at h1 h2
    exact e _ _ (h.at_ i a r' h1 h2)
structure RP (k N : Nat) (R : List (List Nat)) (M : Mat) : Prop where
  rl : R.length = k
  lens : ∀ i, i < k → (R.getD i []).length = N ∧ Bytes (R.getD i [])
  ent : ∀ i, i < k → ∀ j, j < N → (R.getD i []).getD j 0 = M i j
theorem RP.at_ {k N i : Nat} {R : List (List Nat)} {M : Mat} (h : RP k N R M) (hi : i < k) : R[i]? = some (R.getD i []) := by
  simp [show i < R.length by rw [h.rl]; exact hi]
theorem refs_set (as : List Addr) (n : Nat) (q : Addr) : (refs as).set n (V.ref q) = refs (as.set n q) := by unfold refs; rw [List.map_set]
def scaleR (f : Nat) (r : List Nat) : List Nat := r.map (Sy22.mul f)
def midM (c o : Nat) (M : Mat) : Mat := fun i j => if i = c ∨ i < o then elim c M i j else M i j
theorem RP.set {k N c : Nat} {R : List (List Nat)} {M M' : Mat} {r : List Nat} (h : RP k N R M) (hc : c < k) (hl : r.length = N) (hb : Bytes r) (he : ∀ j, j < N → r.getD j 0 = M' c j) (ho : ∀ i, i < k → i ≠ c → ∀ j, j < N → M' i j = M i j) : RP k N (R.set c r) M' := by
  have gs : ∀ i, i < k → (R.set c r).getD i [] = if i = c then r else R.getD i [] := fun i hi => by
    rw [List.getD_eq_getElem?_getD]
    by_cases e : i = c
    · rw [if_pos e, e, List.getElem?_set_self (by rw [h.rl]; exact hc)]; rfl
    · rw [if_neg e, List.getElem?_set_ne fun z => e z.symm, ← List.getD_eq_getElem?_getD]
  refine ⟨by rw [List.length_set, h.rl], fun i hi => ?_, fun i hi j hj => ?_⟩
  · rw [gs i hi]
    split
    · exact ⟨hl, hb⟩
    · exact h.lens i hi
  · rw [gs i hi]
    by_cases e : i = c
    · rw [if_pos e, e]; exact he j hj
    · rw [if_neg e, h.ent i hi j hj, ho i hi e j hj]
theorem RP.same {k N : Nat} {R : List (List Nat)} {M M' : Mat} (h : RP k N R M) (e : ∀ i, i < k → ∀ j, j < N → M' i j = M i j) : RP k N R M' := ⟨h.rl, h.lens, fun i hi j hj => (h.ent i hi j hj).trans (e i hi j hj).symm⟩
def sp_solve (K : PySem.W.Frag) : Sp := fun vs H Q _ => ∃ (a : Addr) (as : List Addr) (R : List (List Nat)) (k len : Nat) (M : Mat), vs = [.ref a, .int (k : Int)] ∧ Rows K H a as R ∧ RP k (k + len) R M ∧ MB M ∧ (∀ c, c < k → runP M c c c ≠ 0) ∧ k ≤ 32 ∧ len ≤ 1000 ∧
  ∀ p bs H' ms, Loc H H' ms → Rows K H' p bs ((List.range k).map fun i => (List.range len).map fun x => runP M k i (k + x)) → Q (.ref p) H'
abbrev s_solve : Stmt := top 13
theorem sc_solve : FnScope ["rows", "k", "at", "products", "other", "row", "byte"] ["rows", "k"] (defScope s_solve) := ⟨rfl, rfl, rfl, by decide +kernel, rfl, by decide +kernel, by decide +kernel⟩
theorem ok_solve {f : Addr} {fd : FuncData} (F : Fun K "solve" "solve" s_solve f fd) (T : Txt K mg ad) (C_multiples : Callee P w K mg base 2 "multiples" ["factor"] (sp_multiples K)) (C_inverse : Callee P w K mg base 3 "inverse" ["byte"] (sp_inverse K)) (C_add_multiple : Callee P w K mg base 3 "add_multiple" ["row", "factor", "other"] (sp_add_multiple K)) : FnOk P w K mg base CX0 4 f fd ["rows", "k"] (sp_solve K) := by
  refine F.ok sc_solve (fun vs H Q E h => ?_) (fun cdv A outer s H vs Q E hr h => ?_)
  · obtain ⟨a, as, R, k, len, M, rfl, _⟩ := h; rfl
  obtain ⟨a, as, R, k, len, M, rfl, hR, hP, hB, hpv, hk, hlen, q⟩ := h
  refine ⟨_, (pss_cons (ps_set (i := 0) sc_solve.nd rfl (Or.inl rfl) (pe_callTy (c_listK (K := K) rfl) (by rfl) T.n_list b_list (pa_cons (pv 0) pa_nil)))
      (pss_cons (ps_for PassesOwn.never rfl (pi_range1 rfl T.n_range (pa_cons (pv 1) pa_nil)) (pg_name (i := 2) sc_solve.nd rfl (Or.inl rfl)) (pss_cons (ps_set (i := 3) sc_solve.nd rfl (Or.inr rfl) (pe_fn C_multiples (hr.mono (by decide)) rfl (pa_cons (pe_fn C_inverse (hr.mono (by decide)) rfl (pa_cons (pe_ix (ix_listK (K := K) rfl) (pe_ix (ix_listK (K := K) rfl) (pv 0) (pv 2) (fun _ _ => rfl)) (pv 2) (fun _ _ => rfl)) pa_nil)) pa_nil)))
      (pss_cons (ps_asg (pe_lc rfl sc_solve.nd (pi_list (pe_ix (ix_listK (K := K) rfl) (pv 0) (pv 2) (fun _ _ => rfl))) (blkOk_by (own := [("byte", 6)]) (by show blkC ["rows", "k", "at", "products", "other", "row", "byte"] (defScope s_solve) _ _ = true; decide +kernel)) (fun _ _ _ _ _ => pg_name (i := 6) sc_solve.nd rfl (Or.inl rfl)) (fun _ _ _ _ _ => pts_nil) (fun _ _ _ _ _ => (pe_ix (ix_listK (K := K) rfl) (pv 3) (pv 6) (fun _ _ => rfl)))) (pg_sub (pv 0) (pv 2) set_list))
      (pss_one (ps_for PassesOwn.never rfl (pi_range1 rfl T.n_range (pa_cons (pv 1) pa_nil)) (pg_name (i := 4) sc_solve.nd rfl (Or.inl rfl)) (pss_one (ps_if (PW.pt (pw_and (pt_cmpR op_ne (pv 4) (pv 2) (nomark _)) (pw_and1 (pt_cmpR op_ne (pe_ix (ix_listK (K := K) rfl) (pe_ix (ix_listK (K := K) rfl) (pv 0) (pv 4) (fun _ _ => rfl)) (pv 2) (fun _ _ => rfl)) pe_int (nomark _))))) (pss_one (ps_asg (pe_fn C_add_multiple (hr.mono (by decide)) rfl (pa_cons (pe_ix (ix_listK (K := K) rfl) (pv 0) (pv 4) (fun _ _ => rfl)) (pa_cons (pe_ix (ix_listK (K := K) rfl) (pe_ix (ix_listK (K := K) rfl) (pv 0) (pv 4) (fun _ _ => rfl)) (pv 2) (fun _ _ => rfl)) (pa_cons (pe_ix (ix_listK (K := K) rfl) (pv 0) (pv 2) (fun _ _ => rfl)) pa_nil)))) (pg_sub (pv 0) (pv 4) set_list))) pss_nil)))))))
      (pss_one (ps_ret (pe_lc rfl sc_solve.nd (pi_list (pv 0)) (blkOk_by (own := [("row", 5)]) (by show blkC ["rows", "k", "at", "products", "other", "row", "byte"] (defScope s_solve) _ _ = true; decide +kernel)) (fun _ _ _ _ _ => pg_name (i := 5) sc_solve.nd rfl (Or.inl rfl)) (fun _ _ _ _ _ => pts_nil) (fun _ _ _ _ _ => (pe_slice (sl_listK (K := K) rfl) (pv 5) (po_some (pv 1)) po_none))))))), ?_⟩
  have L0 := Loc.start H
  have hal := hR.len
  have hrl := hP.rl
  walk_at "init"
  refine r_listOf L0 hR.lst fun p H1 L1 => ?_
  have hE1 : RowsE H1 p as R := ⟨hal, fun i x r h1 h2 => by
    have h3 := hR.at_ i x r h1 h2
    rw [er_ne (ne_of_none h3 (L1.fresh 0 rfl))]
    exact L1.same _ _ h3⟩
  walk_at "go"
  refine ⟨(k : Int), rfl, by omega, by omega, ?_⟩
  rw [Int.toNat_natCast]
  refine f_range (n := k) (fun c σ H' => ∃ (as' : List Addr) (R' : List (List Nat)) (v2 v3 v4 : Option V), σ = [some (.ref p), some (.int (k : Int)), v2, v3, v4, none, none] ∧ Loc H H' [(p, .lst (refs as'))] ∧ RowsE H' p as' R' ∧ RP k (k + len) R' (runP M c)) ⟨as, R, _, _, _, rfl, L1, hE1, hP⟩ ?_ ?_
  · rintro c σ H2 hc ⟨as2, R2, v2, v3, v4, rfl, L2, hE2, hP2⟩
    rw [Int.zero_add]
    have Mb := runP_b hB c
    have piv := hpv c hc
    have e0 : runP M (c + 1) = elim c (runP M c) := rfl
    rw [e0]
    generalize runP M c = A at *
    have al2 : as2.length = k := by rw [hE2.len, hP2.rl]
    obtain ⟨ac, hac⟩ : ∃ x, as2[c]? = some x := ⟨as2[c]'(by omega), List.getElem?_eq_getElem (by omega)⟩
    have hrc := hE2.at_ c ac _ hac (hP2.at_ hc)
    obtain ⟨lc, bc⟩ := hP2.lens c hc
    have sqc : SqL K H2 ac (nv (R2.getD c [])) := SqL.of (er_some hrc).2
    have ecc := hP2.ent c hc c (by omega)
    walk_at "go"
    refine r_ixR (L2.lst 0 rfl) hac ?_
    walk_at "go"
    rw [ecc]
    have M2 := Loc.self (L2.get 0 rfl)
    refine use_inverse M2 (Mb c c) piv fun H3 M3 => ?_
    walk_at "go"
    refine use_multiples M3 (inv_lt (Mb c c)) fun p4 H4 M4 => ?_
    have tl : (tab (Sy22.inv (A c c)) 8).length = 256 := tab_len _ 8
    walk_at "go"
    refine r_ixR (M4.lst 0 rfl) hac ?_
    have sq4 : SqL K H4 ac (nv (R2.getD c [])) := SqL.of (M4.same _ _ hrc)
    walk_at "go"
    refine lc_l M4 sq4 (by rw [lc, sizeLine_eq]; omega) (fun j => Sy22.mul (Sy22.inv (A c c)) ((R2.getD c []).getD j 0)) ?_ ?_
    · intro j hj H7 D o Rk L7 r
      have hb := bc.at_ j
      walk_at "go"
      rw [tab_at hb]
      exact r
    · intro p5 H5 M5
      rw [range_map_get (R2.getD c []) (Sy22.mul (Sy22.inv (A c c)))] at M5
      walk_at "go"
      refine r_setL (n := c) M5 0 rfl (by rw [refs_len]; omega) fun H6 M6 => ?_
      simp only [List.cons_append, List.nil_append, List.set_cons_zero, refs_set] at M6
      walk_at "go"
      have hE6 : RowsE H6 p (as2.set c p5) (R2.set c ((R2.getD c []).map (Sy22.mul (Sy22.inv (A c c))))) := hE2.set (same_er' M6.same) c (by
        have ne : p5 ≠ p := fun z => by
          have := M6.nd
          rw [z] at this
          simp at this
        rw [er_ne ne]
        exact M6.get 2 rfl)
      have hP6 : RP k (k + len) (R2.set c ((R2.getD c []).map (Sy22.mul (Sy22.inv (A c c))))) (midM c 0 A) := hP2.set hc (by rw [List.length_map, lc]) (bc.map fun x hx => mul_lt _ (inv_lt (Mb c c))) (fun j hj => by
        rw [getD_map0 (mul_zero' _), hP2.ent c hc j hj]
        unfold midM elim
        rw [if_pos (.inl rfl), if_pos rfl]) (fun i hi hne j hj => by
        unfold midM
        rw [if_neg (by omega)])
      have L6 := (L2.meth 0 rfl M6).pick 0 rfl
      refine ⟨(k : Int), rfl, by omega, by omega, ?_⟩
      rw [Int.toNat_natCast]
      refine f_range (n := k) (fun o σ H' => ∃ (as' : List Addr) (R' : List (List Nat)) (v4 : Option V), σ = [some (.ref p), some (.int (k : Int)), some (.int (c : Int)), some (.ref p4), v4, none, none] ∧ Loc H H' [(p, .lst (refs as'))] ∧ RowsE H' p as' R' ∧ RP k (k + len) R' (midM c o A)) ⟨_, _, _, rfl, L6, hE6, hP6⟩ ?_ ?_
      · rintro o σ H7 ho ⟨as7, R7, v4, rfl, L7, hE7, hP7⟩
        rw [Int.zero_add]
        have al7 : as7.length = k := by rw [hE7.len, hP7.rl]
        obtain ⟨ac7, hac7⟩ : ∃ x, as7[c]? = some x := ⟨as7[c]'(by omega), List.getElem?_eq_getElem (by omega)⟩
        obtain ⟨ao7, hao7⟩ : ∃ x, as7[o]? = some x := ⟨as7[o]'(by omega), List.getElem?_eq_getElem (by omega)⟩
        have hrc7 := hE7.at_ c ac7 _ hac7 (hP7.at_ hc)
        have hro7 := hE7.at_ o ao7 _ hao7 (hP7.at_ ho)
        obtain ⟨lc7, bc7⟩ := hP7.lens c hc
        obtain ⟨lo7, bo7⟩ := hP7.lens o ho
        have sqo7 : SqL K H7 ao7 (nv (R7.getD o [])) := SqL.of (er_some hro7).2
        have sqc7 : SqL K H7 ac7 (nv (R7.getD c [])) := SqL.of (er_some hrc7).2
        have eoc := hP7.ent o ho c (by omega)
        walk_at "go"
        refine r_ifn (fun hne => ?_) (fun heq => ?_)
        · have moc : midM c o A o c = A o c := by unfold midM; rw [if_neg (by omega)]
          rw [moc] at eoc
          walk_at "go"
          refine r_ixR (L7.lst 0 rfl) hao7 ?_
          walk_at "go"
          rw [eoc]
          refine r_ifn (fun hg => ?_) (fun hg => ?_)
          · walk_at "go"
            refine r_ixR (L7.lst 0 rfl) hao7 ?_
            walk_at "go"
            refine r_ixR (L7.lst 0 rfl) hao7 ?_
            walk_at "go"
            rw [eoc]
            refine r_ixR (L7.lst 0 rfl) hac7 ?_
            walk_at "go"
            have M7 := Loc.self (L7.get 0 rfl)
            refine use_add_multiple M7 sqo7 sqc7 (Mb o c) (by rw [lo7, lc7]) (by rw [lo7]; omega) bc7 fun p8 H8 M8 => ?_
            walk_at "go"
            refine r_setL (n := o) M8 0 rfl (by rw [refs_len]; omega) fun H9 M9 => ?_
            simp only [List.cons_append, List.nil_append, List.set_cons_zero, refs_set] at M9
            walk_at "go"
            refine ⟨_, _, _, rfl, (L7.meth 0 rfl M9).pick 0 rfl, hE7.set (same_er' M9.same) o (by
              have ne : p8 ≠ p := fun z => by
                have := M9.nd
                rw [z] at this
                simp at this
              rw [er_ne ne]
              exact M9.get 1 rfl), hP7.set ho (by rw [addM_len, lo7]) (addM_bytes bo7 (Mb o c)) (fun j hj => ?_) (fun i hi hio j hj => ?_)⟩
            · unfold addM
              rw [getD_map_range (by rw [lo7]; exact hj), hP7.ent o ho j hj, hP7.ent c hc j hj]
              unfold midM
              rw [if_neg (by omega), if_pos (.inl rfl), if_pos (.inr (by omega))]
              unfold elim
              rw [if_pos rfl, if_neg hne]
            · unfold midM
              by_cases h1 : i = c ∨ i < o
              · rw [if_pos h1, if_pos (by omega)]
              · rw [if_neg h1, if_neg (by omega)]
          · walk_at "go"
            refine ⟨as7, R7, _, rfl, L7, hE7, hP7.same fun i hi j hj => ?_⟩
            unfold midM
            by_cases h1 : i = c ∨ i < o
            · rw [if_pos h1, if_pos (by omega)]
            · rw [if_neg h1]
              by_cases h2 : i = o
              · subst h2
                rw [if_pos (.inr (by omega))]
                unfold elim
                rw [if_neg hne, hg, zero_mul', Nat.xor_zero]
              · rw [if_neg (by omega)]
        · refine ite_ff ?_
          walk_at "go"
          refine ⟨as7, R7, _, rfl, L7, hE7, hP7.same fun i hi j hj => ?_⟩
          unfold midM
          by_cases h1 : i = c ∨ i < o
          · rw [if_pos h1, if_pos (by omega)]
          · rw [if_neg h1, if_neg (by omega)]
      · rintro σ H7 ⟨as7, R7, v4', rfl, L7, hE7, hP7⟩
        walk_at "go"
        refine ⟨as7, R7, _, _, _, rfl, L7, hE7, hP7.same fun i hi j hj => ?_⟩
        unfold midM
        rw [if_pos (.inr hi)]
  · rintro σ H2 ⟨as2, R2, v2, v3, v4, rfl, L2, hE2, hP2⟩
    have al2 : as2.length = k := by rw [hE2.len, hP2.rl]
    have hl2 : SqL K H2 p (refs as2) := L2.lst 0 rfl
    walk_at "go"
    have rat : ∀ i, i < k → (refs as2)[i]? = some ((refs as2).getD i .non) := fun i hi => by
      simp [show i < (refs as2).length by rw [refs_len, al2]; exact hi]
    refine lc_rows (n := k) (row := fun i => (List.range len).map fun x => runP M k i (k + x)) L2 (by rw [sizeLine_eq]; omega) (fun i => (refs as2).getD i .non) (fun i H hi sm => ⟨_, _, sm.seq hl2, rat i hi⟩) (fun H sm => ⟨_, sm.seq hl2, by rw [refs_len, al2]; exact Nat.le_refl _⟩)
      (fun i H H' x hi sm y => ⟨y.1, Option.some.inj ((y.2 _ (sm.seq hl2)).symm.trans (rat i hi))⟩) ?_ ?_
    · intro i hi H3 Rk sm r
      have hai : as2[i]? = some (as2[i]'(by omega)) := List.getElem?_eq_getElem (by omega)
      have hri := hE2.at_ i _ _ hai (hP2.at_ hi)
      obtain ⟨li, bi⟩ := hP2.lens i hi
      have sqi : SqL K H3 (as2[i]'(by omega)) (nv (R2.getD i [])) := SqL.of (sm _ _ (er_some hri).2)
      have ev : (refs as2).getD i .non = V.ref (as2[i]'(by omega)) := by
        unfold refs
        simp [show i < as2.length by omega]
      rw [ev]
      walk_at "go"
      refine r_slice (Loc.start H3) sqi fun p4 H4 M4 => ?_
      rw [nv_cutFrom (by omega) (by omega), Int.toNat_natCast] at M4
      have e : (R2.getD i []).drop k = (List.range len).map fun x => runP M k i (k + x) := by
        refine List.ext_getElem (by rw [List.length_drop, li]; simp) fun x h1 h2 => ?_
        have hx : x < len := by simpa using h2
        rw [List.getElem_map, List.getElem_range, ← hP2.ent i hi (k + x) (by omega), List.getElem_drop]
        generalize R2.getD i [] = l at *
        simp [show k + x < l.length by omega]
      rw [e] at M4
      exact r p4 H4 M4
    · intro D bs H3 hbl L3
      refine q D bs H3 _ L3 (L3.rows (L3.lst 1 rfl) (by rw [hbl]; simp) fun x hx => ?_)
      exact List.mem_cons_of_mem _ (List.mem_cons_of_mem _ hx)
theorem use_solve {H H0 : Hp} {ls : List (Addr × HO)} {Q : VK} {E : XK} {a : Addr} {as : List Addr} {R : List (List Nat)} {k len : Nat} {M : Mat} (L : Loc H0 H ls) (hR : Rows K H a as R) (hP : RP k (k + len) R M) (hB : MB M) (hpv : ∀ c, c < k → runP M c c c ≠ 0) (hk : k ≤ 32) (hlen : len ≤ 1000)
    (q : ∀ p bs H', Loc H0 H' ls → Rows K H' p bs ((List.range k).map fun i => (List.range len).map fun x => runP M k i (k + x)) → Q (.ref p) H') : sp_solve K ([.ref a, .int (k : Int)] ++ []) H Q E :=
  ⟨a, as, R, k, len, M, rfl, hR, hP, hB, hpv, hk, hlen, fun p bs H' ms M' hR' => q p bs H' ((L.calls M').sub (List.sublist_append_left _ _)) hR'⟩
/-! tell_data -/
theorem in_ps {k m t j : Nat} (hj : j < k) : j ∈ (Sy22.places (k + m) t).take k ↔ t.testBit j = true := by
  rw [ps_eq, List.mem_append]
  constructor
  · rintro (h | h)
    · exact (List.mem_filter.mp h).2
    · have := spare_mem h; omega
  · intro h
    exact .inl (List.mem_filter.mpr ⟨List.mem_range.mpr hj, h⟩)
theorem ps_spare (k m t : Nat) : ((Sy22.places (k + m) t).take k).filter (fun x => decide (k ≤ x)) = spareX k m t := by
  rw [ps_eq, List.filter_append]
  have e1 : (presA k t).filter (fun x => decide (k ≤ x)) = [] := by
    rw [List.filter_eq_nil_iff]
    intro a ha
    have := List.mem_range.mp (List.mem_filter.mp ha).1
    simp
    omega
  have e2 : (spareX k m t).filter (fun x => decide (k ≤ x)) = spareX k m t := by
    rw [List.filter_eq_self]
    intro a ha
    have := spare_mem ha
    simp
    omega
  rw [e1, e2, List.nil_append]
theorem drop_cons {l : List Nat} {i : Nat} (h : i < l.length) : l.drop i = l.getD i 0 :: l.drop (i + 1) := by
  rw [List.drop_eq_getElem_cons h, show l.getD i 0 = l[i] by simp [h]]
def rowsOf (k m t : Nat) (sh : Nat → List Nat) (n : Nat) : List (List Nat) := (List.range n).map fun j => Sy22.rowFor k (plP k m t j) ++ sh (plP k m t j)
def sp_tell_data (K : PySem.W.Frag) : Sp := fun vs H Q _ => ∃ (b c : Addr) (cs : List Addr) (all : List (List Nat)) (k m t len : Nat), vs = [.int (k : Int), .ref b, .ref c] ∧ SqL K H b (nv ((Sy22.places (k + m) t).take k)) ∧ Rows K H c cs all ∧ all.length = k + m ∧ (∀ r ∈ all, r.length = len ∧ Bytes r) ∧ 1 ≤ k ∧ k + m ≤ 32 ∧ len ≤ 1000 ∧ k ≤ (Sy22.places (k + m) t).length ∧
  ∀ p bs H' ms, Loc H H' ms → Rows K H' p bs (Sy22.solve k (((Sy22.places (k + m) t).take k).map fun (s : Nat) => (Sy22.rowFor k s, all.getD s []))) → Q (.ref p) H'
abbrev s_tell_data : Stmt := top 14
theorem sc_tell_data : FnScope ["k", "places", "shares", "place", "spare", "rows", "j"] ["k", "places", "shares"] (defScope s_tell_data) := ⟨rfl, rfl, rfl, by decide +kernel, rfl, by decide +kernel, by decide +kernel⟩
theorem ok_tell_data {f : Addr} {fd : FuncData} (F : Fun K "tell_data" "tell_data" s_tell_data f fd) (T : Txt K mg ad) (C_factors_of : Callee P w K mg base 4 "factors_of" ["k", "place"] (sp_factors_of K)) (C_solve : Callee P w K mg base 4 "solve" ["rows", "k"] (sp_solve K)) : FnOk P w K mg base CX0 5 f fd ["k", "places", "shares"] (sp_tell_data K) := by
  refine F.ok sc_tell_data (fun vs H Q E h => ?_) (fun cdv A outer s H vs Q E hr h => ?_)
  · obtain ⟨b, c, cs, all, k, m, t, len, rfl, _⟩ := h; rfl
  obtain ⟨b, c, cs, all, k, m, t, len, rfl, hb, hC, hal, hlen, hk1, hkm, hl1, hpl, q⟩ := h
  refine ⟨_, (pss_cons (ps_setLc (i := 4) rfl sc_tell_data.nd rfl rfl (sw_true rfl rfl rfl rfl) (pi_list (pv 1)) (blkOk_by (own := [("place", 3)]) (by show blkC ["k", "places", "shares", "place", "spare", "rows", "j"] (defScope s_tell_data) _ _ = true; decide +kernel)) (fun _ _ _ _ _ => pg_name (i := 3) sc_tell_data.nd rfl (Or.inl rfl)) (fun _ _ _ _ _ => (pts_one (pt_cmpR op_ge (pv 3) (pv 0) (nomark _)))) (fun _ _ _ _ _ => (pv 3)))
      (pss_cons (ps_set (i := 5) sc_tell_data.nd rfl (Or.inl rfl) (pe_lst pa_nil))
      (pss_cons (ps_for PassesOwn.never rfl (pi_range1 rfl T.n_range (pa_cons (pv 0) pa_nil)) (pg_name (i := 6) sc_tell_data.nd rfl (Or.inl rfl)) (pss_cons (ps_set (i := 3) sc_tell_data.nd rfl (Or.inl rfl) (pe_mid (pe_ifExp (pt_cmpR (op_inK (K := K) rfl) (pv 6) (pv 1) (by rfl)) (pv 6) (pe_bm PySem.F.plainAttrs_list PySem.F.slot_list_pop PySem.F.type_list_pop mt_popAt (pv 4) (pa_cons pe_int pa_nil)))))
      (pss_one (ps_expr (pe_bm PySem.F.plainAttrs_list PySem.F.slot_list_append PySem.F.type_list_append mt_append (pv 5) (pa_cons (pe_op (op_catK (K := K) rfl) (pe_fn C_factors_of (hr.mono (by decide)) rfl (pa_cons (pv 0) (pa_cons (pv 3) pa_nil))) (pe_ix (ix_listK (K := K) rfl) (pv 2) (pv 3) (fun _ _ => rfl))) pa_nil))))))
      (pss_one (ps_ret (pe_fn C_solve (hr.mono (by decide)) rfl (pa_cons (pv 5) (pa_cons (pv 0) pa_nil)))))))), ?_⟩
  have L0 := Loc.start H
  have sh_b : ∀ s, Bytes (all.getD s []) := fun s => by
    by_cases h : s < all.length
    · rw [show all.getD s [] = all[s] by simp [h]]; exact (hlen _ (List.getElem_mem h)).2
    · rw [show all.getD s [] = [] by simp [h]]; exact Bytes.nil
  have sh_l : ∀ s, s < k + m → (all.getD s []).length = len := fun s hs => by
    rw [show all.getD s [] = all[s]'(by omega) by simp [show s < all.length by omega]]; exact (hlen _ (List.getElem_mem (by omega))).1
  have sl := spare_len hpl
  have psl : ((Sy22.places (k + m) t).take k).length = k := by rw [List.length_take]; omega
  have plk : ∀ j, j < k → plP k m t j < k + m := fun j hj => by
    unfold plP
    split
    · omega
    · rename_i hbk
      have hb' : ¬ t.testBit j = true := fun z => hbk ⟨z, hj⟩
      have hm1 := miss_mono (t := t) (show j + 1 ≤ k by omega)
      rw [miss_succ, if_neg hb', List.length_append] at hm1
      have := (spare_mem (getD_mem (l := spareX k m t) (i := (miss t j).length) (by simp at hm1; omega))).2
      exact this
  walk_at "init"
  refine lc_fl L0 hb (by rw [psl, sizeLine_eq]; omega) (fun x => decide (k ≤ x)) ?_ ?_ ?_
  · intro i hi H7 D o R L7 r
    walk_at "go"
    exact r
  · intro i hi H7 D o R L7 r
    walk_at "go"
    exact r
  intro sp H1 L1
  rw [ps_spare] at L1
  walk_at "go"
  apply r_new L1 (by decide)
  intro p H2 L2
  walk_at "go"
  refine ⟨(k : Int), rfl, by omega, by omega, ?_⟩
  rw [Int.toNat_natCast]
  refine f_range (n := k) (fun j σ H' => ∃ (as : List Addr) (v3 v6 : Option V), σ = [some (.int (k : Int)), some (.ref b), some (.ref c), v3, some (.ref sp), some (.ref p), v6] ∧ as.length = j ∧ Loc H H' ((sp, .lst (nv ((spareX k m t).drop (miss t j).length))) :: (p, .lst (refs as)) :: rowO as (rowsOf k m t (fun s => all.getD s []) j))) ⟨[], _, _, rfl, rfl, L2⟩ ?_ ?_
  · rintro j σ H3 hj ⟨as, v3, v6, rfl, hjl, L3⟩
    rw [Int.zero_add]
    have hb3 := L3.arg hb
    have hC3 := hC.mono L3.same
    have pj := plk j hj
    have p64 := plP_lt (t := t) hkm j
    walk_at "go"
    refine r_midE (fun v H' => v = .int ((plP k m t j : Nat) : Int) ∧ Loc H H' ((sp, .lst (nv ((spareX k m t).drop (miss t (j + 1)).length))) :: (p, .lst (refs as)) :: rowO as (rowsOf k m t (fun s => all.getD s []) j))) ?_ ?_
    · walk_at "go"
      refine r_inL hb3 ?_
      walk_at "go"
      refine r_if (fun hin => ?_) (fun hin => ?_)
      · have tb := (in_ps hj).mp hin
        walk_at "go"
        refine ⟨by unfold plP; rw [if_pos ⟨tb, hj⟩], ?_⟩
        rw [miss_succ, if_pos tb, List.append_nil]
        exact L3
      · have tb : ¬ t.testBit j = true := fun h => hin ((in_ps hj).mpr h)
        have hm1 := miss_mono (t := t) (show j + 1 ≤ k by omega)
        rw [miss_succ, if_neg tb, List.length_append] at hm1
        have hml : (miss t j).length < (spareX k m t).length := by simp at hm1; omega
        walk_at "go"
        refine r_popAt L3 0 rfl (drop_cons hml) fun H4 L4 => ?_
        refine ⟨by unfold plP; rw [if_neg fun z => tb z.1], ?_⟩
        rw [miss_succ, if_neg tb, List.length_append, List.length_singleton]
        exact L4
    · rintro v H4 ⟨rfl, L4⟩
      have hC4 := hC.mono L4.same
      obtain ⟨x, hx⟩ : ∃ x, cs[plP k m t j]? = some x := ⟨cs[plP k m t j]'(by rw [hC.len]; omega), List.getElem?_eq_getElem _⟩
      have hrow := hC.at_ _ x (all.getD (plP k m t j) []) hx (by simp [show plP k m t j < all.length by omega])
      have shl := sh_l _ pj
      walk_at "go"
      refine use_factors_of (Loc.start H4) (by omega) p64 fun p5 H5 M5 => ?_
      have L5 := L4.calls M5
      have hc5 := (L5.arg hC.lst)
      walk_at "go"
      refine r_ixR hc5 hx ?_
      walk_at "go"
      refine r_cat2 M5 (M5.lst 0 rfl) (SqL.of (L5.same _ _ hrow)) (by rw [rowFor_len, shl, sizeLine_eq]; omega) fun p6 H6 M6 => ?_
      have L6 := L4.calls (M6.pick 1 rfl)
      walk_at "go"
      refine r_append L6 1 rfl (by rw [refs_len, hjl, sizeLine_eq]; omega) fun H7 L7 => ?_
      walk_at "go"
      refine ⟨as ++ [p6], _, _, rfl, by simp [hjl], ?_⟩
      unfold rowsOf at L7 ⊢
      rw [List.range_succ, List.map_append, List.map_cons, List.map_nil, rowO_snoc (by simp [hjl]), show refs (as ++ [p6]) = refs as ++ [V.ref p6] by simp [refs]]
      exact L7
  · rintro σ H3 ⟨as, v3, v6, rfl, hjl, L3⟩
    have hR3 : Rows K H3 p as (rowsOf k m t (fun s => all.getD s []) k) := L3.rows (L3.lst 1 rfl) (by unfold rowsOf; simp [hjl]) fun x hx => List.mem_cons_of_mem _ (List.mem_cons_of_mem _ hx)
    have hMB : MB (matOf k len (plP k m t) (fun s => all.getD s [])) := matOf_b (by omega) (plP_lt hkm) sh_b
    have rg : ∀ i, i < k → (rowsOf k m t (fun s => all.getD s []) k).getD i [] = Sy22.rowFor k (plP k m t i) ++ all.getD (plP k m t i) [] := fun i hi => by
      unfold rowsOf
      rw [List.getD_eq_getElem?_getD, List.getElem?_map, List.getElem?_range hi]
      rfl
    have hP : RP k (k + len) (rowsOf k m t (fun s => all.getD s []) k) (matOf k len (plP k m t) (fun s => all.getD s [])) := by
      refine ⟨by unfold rowsOf; simp, fun i hi => ?_, fun i hi j hj => ?_⟩
      · rw [rg i hi]
        exact ⟨by rw [List.length_append, rowFor_len, sh_l _ (plk i hi)], (rowFor_bytes (by omega) (plP_lt hkm i)).app (sh_b _)⟩
      · rw [rg i hi]
        unfold matOf
        by_cases hjk : j < k
        · rw [if_pos hjk]
          exact getD_app1 (by rw [rowFor_len]; exact hjk)
        · rw [if_neg hjk, getD_app2 (by rw [rowFor_len]; omega), rowFor_len]
    walk_at "go"
    refine use_solve L3 hR3 hP hMB (pivP hkm sh_b hpl hMB) (by omega) hl1 fun p5 bs H5 L5 hR5 => ?_
    rw [← solve_is hkm sh_b hpl hMB sh_l] at hR5
    exact q p5 bs H5 _ L5 hR5
theorem use_tell_data {H H0 : Hp} {ls : List (Addr × HO)} {Q : VK} {E : XK} {b c : Addr} {cs : List Addr} {all : List (List Nat)} {k m t len : Nat} (L : Loc H0 H ls) (hb : SqL K H b (nv ((Sy22.places (k + m) t).take k))) (hC : Rows K H c cs all) (hal : all.length = k + m) (hlen : ∀ r ∈ all, r.length = len ∧ Bytes r) (hk1 : 1 ≤ k) (hkm : k + m ≤ 32) (hl1 : len ≤ 1000) (hpl : k ≤ (Sy22.places (k + m) t).length)
    (q : ∀ p bs H', Loc H0 H' ls → Rows K H' p bs (Sy22.solve k (((Sy22.places (k + m) t).take k).map fun (s : Nat) => (Sy22.rowFor k s, all.getD s []))) → Q (.ref p) H') : sp_tell_data K ([.int (k : Int), .ref b, .ref c] ++ []) H Q E :=
  ⟨b, c, cs, all, k, m, t, len, rfl, hb, hC, hal, hlen, hk1, hkm, hl1, hpl, fun p bs H' ms M hR => q p bs H' ((L.calls M).sub (List.sublist_append_left _ _)) hR⟩
/-- what the pieces that are told are -/
theorem solve_dat {k m t len : Nat} {all : List (List Nat)} (hal : all.length = k + m) (hlen : ∀ r ∈ all, r.length = len ∧ Bytes r) (hk1 : 1 ≤ k) (hkm : k + m ≤ 32) (hpl : k ≤ (Sy22.places (k + m) t).length) :
    Dat (Sy22.solve k (((Sy22.places (k + m) t).take k).map fun (s : Nat) => (Sy22.rowFor k s, all.getD s []))) len ∧ (Sy22.solve k (((Sy22.places (k + m) t).take k).map fun (s : Nat) => (Sy22.rowFor k s, all.getD s []))).length = k := by
  have sh_b : ∀ s, Bytes (all.getD s []) := fun s => by
    by_cases h : s < all.length
    · rw [show all.getD s [] = all[s] by simp [h]]; exact (hlen _ (List.getElem_mem h)).2
    · rw [show all.getD s [] = [] by simp [h]]; exact Bytes.nil
  have sh_l : ∀ s, s < k + m → (all.getD s []).length = len := fun s hs => by
    rw [show all.getD s [] = all[s]'(by omega) by simp [show s < all.length by omega]]; exact (hlen _ (List.getElem_mem (by omega))).1
  have hMB : MB (matOf k len (plP k m t) (fun s => all.getD s [])) := matOf_b (by omega) (plP_lt hkm) sh_b
  rw [solve_is hkm sh_b hpl hMB sh_l]
  refine ⟨⟨by simpa using hk1, by simp; omega, fun r hr => ?_⟩, by simp⟩
  obtain ⟨i, _, rfl⟩ := List.mem_map.mp hr
  refine ⟨by simp, fun y hy => ?_⟩
  obtain ⟨x, _, rfl⟩ := List.mem_map.mp hy
  exact runP_b hMB k i _
end
end My
end
set_option Elab.async false
set_option linter.all false
set_option maxRecDepth 100000
set_option maxHeartbeats 2000000
namespace My
open PySem PySem.Spec PyProof.Rows L2
local macro_rules | `(tactic| walk_at "sq") => `(tactic| first
  | assumption
  | (apply Loc.lst (j := 0) <;> first | assumption | exact rfl)
  | (apply Loc.lst (j := 1) <;> first | assumption | exact rfl)
  | (apply Loc.lst (j := 2) <;> first | assumption | exact rfl)
  | (apply Loc.lst (j := 3) <;> first | assumption | exact rfl)
  | (apply Loc.lst (j := 4) <;> first | assumption | exact rfl)
  | (apply Loc.arg <;> assumption))
local macro_rules | `(tactic| walk_at "hp") => `(tactic| first
  | assumption
  | (apply Loc.get (j := 0) <;> first | assumption | exact rfl)
  | (apply Loc.get (j := 1) <;> first | assumption | exact rfl)
  | (apply Loc.get (j := 2) <;> first | assumption | exact rfl)
  | (apply Loc.get (j := 3) <;> first | assumption | exact rfl)
  | (apply Loc.get (j := 4) <;> first | assumption | exact rfl))
local macro_rules | `(tactic| walk_at "bd") => `(tactic| first
  | omega
  | decide
  | (simp only [nv_len, List.length_append, List.length_cons, List.length_nil, List.length_set, List.length_take, List.length_drop] <;> omega)
  | (simp only [sizeLine_eq, nv_len, List.length_append, List.length_cons, List.length_nil, List.length_set, List.length_take, List.length_drop] <;> omega))
local macro_rules | `(tactic| walk_at "bdW") => `(tactic| first | exact Nat.lt_of_lt_of_le (by first | assumption | omega) (by decide +kernel) | assumption)
local macro_rules | `(tactic| walk_at "lk") => `(tactic| rfl)
local macro_rules | `(tactic| walk_at "lt1000") => `(tactic| exact of_decide_eq_true (by rfl))
local macro_rules | `(tactic| walk_at "fp") => `(tactic| first
  | ((with_reducible apply r_putF (j := 0)); (assumption); (exact rfl); (assumption); (assumption); (walk_at "lt1000"))
  | ((with_reducible apply r_putF (j := 1)); (assumption); (exact rfl); (assumption); (assumption); (walk_at "lt1000"))
  | ((with_reducible apply r_putF (j := 2)); (assumption); (exact rfl); (assumption); (assumption); (walk_at "lt1000")))
local macro_rules | `(tactic| walk_at "app1") => `(tactic| first
  | ((with_reducible apply r_append (j := 0)); (assumption); (exact rfl); (walk_at "bd"))
  | ((with_reducible apply r_append (j := 1)); (assumption); (exact rfl); (walk_at "bd"))
  | ((with_reducible apply r_append (j := 2)); (assumption); (exact rfl); (walk_at "bd"))
  | ((with_reducible apply r_append (j := 3)); (assumption); (exact rfl); (walk_at "bd")))
local macro_rules | `(tactic| walk_at "step") => `(tactic| first
  | ((with_reducible apply r_var); exact rfl)
  | with_reducible apply r_c0
  | with_reducible apply r_cN
  | with_reducible apply r_c
  | with_reducible apply r_op
  | with_reducible apply r_fld
  | ((with_reducible apply r_getF); (walk_at "hp"); (assumption); (assumption); (walk_at "lk"))
  | with_reducible apply s_fld
  | with_reducible apply r_meth
  | ((with_reducible apply r_atM); (walk_at "hp"); (walk_at "lk"))
  | with_reducible apply r_make
  | with_reducible apply r_tB
  | with_reducible apply r_tNot
  | with_reducible apply r_tOr
  | with_reducible apply r_andV
  | with_reducible apply r_chain
  | with_reducible apply r_tTru
  | with_reducible apply r_truN
  | with_reducible apply r_shrN
  | ((with_reducible apply r_shlW); (walk_at "bd"); (walk_at "bdW"))
  | with_reducible apply r_andN
  | with_reducible apply r_orN
  | ((with_reducible apply r_subN); (walk_at "bd"))
  | with_reducible apply r_le
  | with_reducible apply r_gt
  | with_reducible apply r_ge
  | with_reducible apply r_gcons
  | with_reducible apply r_gnil
  | with_reducible apply r_izip
  | ((with_reducible apply r_zipAt); (walk_at "sq"); (walk_at "sq"))
  | with_reducible apply r_un
  | with_reducible apply r_xor
  | with_reducible apply r_addN
  | with_reducible apply r_lt
  | with_reducible apply r_eqN
  | with_reducible apply r_neN
  | ((with_reducible apply r_fdivN); (walk_at "bd"); (walk_at "bd"))
  | ((with_reducible apply r_modN); (walk_at "bd"))
  | ((with_reducible apply r_mulN); (walk_at "bd"))
  | ((with_reducible apply r_shlN); (walk_at "bd"); (walk_at "bd"))
  | with_reducible apply r_i2
  | with_reducible apply r_i1
  | with_reducible apply r_test
  | with_reducible apply r_bl
  | with_reducible apply r_and
  | ((with_reducible apply r_ixN); (walk_at "sq"); (walk_at "bd"))
  | ((with_reducible apply r_ix); (walk_at "sq"); (walk_at "bd"); (walk_at "bd"))
  | ((with_reducible apply r_ixT); (solve_by_elim); (walk_at "bd"))
  | with_reducible apply r_bm
  | ((with_reducible apply r_tyL); (walk_at "sq"))
  | with_reducible apply r_cons
  | with_reducible apply r_nil
  | with_reducible apply r_lst
  | with_reducible apply r_sl
  | with_reducible apply r_noPart
  | with_reducible apply r_part
  | with_reducible apply r_exInt
  | with_reducible apply r_cb
  | with_reducible apply r_call
  | ((with_reducible apply r_lenN); (walk_at "sq"))
  | ((with_reducible apply r_len); (walk_at "sq"))
  | with_reducible apply r_ifE
  | with_reducible apply s_seq
  | with_reducible apply s_asg
  | with_reducible apply s_name
  | with_reducible apply s_ret
  | with_reducible apply s_drop
  | with_reducible apply s_if
  | with_reducible apply s_next
  | with_reducible apply s_sub
  | with_reducible apply s_for
  | with_reducible apply r_rng3
  | with_reducible apply r_rng2
  | with_reducible apply r_rng1
  | with_reducible apply r_ilist
  | with_reducible apply r_ituple
  | with_reducible apply r_lc
  | ((with_reducible apply r_isq); (walk_at "sq"))
  | ((with_reducible apply r_ist); (solve_by_elim))
  | dsimp only [List.set_cons_zero, List.set_cons_succ])
local macro_rules | `(tactic| walk_at "go") => `(tactic| repeat walk_at "step")
local macro_rules | `(tactic| walk_at "b256") => `(tactic| (repeat (first | assumption | apply xor256 | apply twice_lt | apply Bytes.at_)))
local macro_rules | `(tactic| walk_at "app") => `(tactic| (walk_at "go"; walk_at "app1"; intro H' L'; simp only [nv_snoc, List.set_cons_zero, List.set_cons_succ] at L'; try walk_at "go"))
local macro_rules | `(tactic| walk_at "init") => `(tactic| (dsimp only [cxOf, L2.start, List.map, List.map_cons, List.map_nil, List.length_cons, List.length_nil, List.cons_append, List.nil_append, Nat.zero_add, Nat.reduceAdd, Nat.reduceSub, List.replicate_succ, List.replicate_zero]; walk_at "go"))
local macro_rules | `(tactic| walk_at "new") => `(tactic| (apply r_new; (assumption); (walk_at "bd"); intro p' H' L'; simp only [List.nil_append, List.cons_append] at L'))
local macro_rules | `(tactic| walk_at "subl") => `(tactic| (repeat (first | exact List.nil_sublist _ | apply List.Sublist.cons_cons | apply List.Sublist.cons)))
local macro_rules | `(tactic| walk_at "seti") => `(tactic| first
  | ((with_reducible apply r_setL (j := 0)); (assumption); (exact rfl); (walk_at "bd"))
  | ((with_reducible apply r_setL (j := 1)); (assumption); (exact rfl); (walk_at "bd"))
  | ((with_reducible apply r_setL (j := 2)); (assumption); (exact rfl); (walk_at "bd"))
  | ((with_reducible apply r_setL (j := 3)); (assumption); (exact rfl); (walk_at "bd")))

section
variable {P : Program} {w : World} {K : PySem.W.Frag} {mg : Str → Option Value} {base : Heap} {ad : Adr}
theorem tb_eq (t i : Nat) : (!decide (t / 2 ^ i &&& 1 = 0)) = t.testBit i := by
  rw [Nat.and_one_is_mod, Nat.testBit_eq_decide_div_mod_eq]
  rcases Nat.mod_two_eq_zero_or_one (t / 2 ^ i) with h | h <;> simp [h]
theorem mend_eq (k m n t : Int) (data : List Int) : PySy22.mend k m n t data = ans (Sy22.does (.mend k.toNat m.toNat n.toNat t.toNat (Sy22Neutral.nats data))).v (Sy22.does (.mend k.toNat m.toNat n.toNat t.toNat (Sy22Neutral.nats data))).rows := by
  rw [← f_ans]; rfl
theorem shares_len (m len : Nat) (data : List (List Nat)) : (Sy22.shares m len data).length = data.length + m := by unfold Sy22.shares; simp
theorem shares_flat {m len : Nat} {data : List (List Nat)} (h : Dat data len) : (Sy22.shares m len data).flatten.length = (data.length + m) * len := by
  rw [flat_same (len := len) fun r hr => ?_, shares_len]
  unfold Sy22.shares at hr
  rcases List.mem_append.mp hr with h1 | h1
  · exact (h.lens r h1).1
  · obtain ⟨i, _, rfl⟩ := List.mem_map.mp h1
    exact share_len _ _ _
def sp_mend (K : PySem.W.Frag) : Sp := fun vs H Q _ => ∃ (k m n t : Int) (a : Addr) (data : List Int), vs = [.int k, .int m, .int n, .int t, .ref a] ∧ SqL K H a (iv data) ∧ PySy22.mend_asked k m n t data = true ∧ ∀ p H', Loc H H' [(p, .lst (iv (PySy22.mend k m n t data)))] → Q (.ref p) H'
abbrev s_mend : Stmt := top 18
theorem sc_mend : FnScope ["k", "m", "size", "there", "shares", "places", "data", "place"] ["k", "m", "size", "there", "shares"] (defScope s_mend) := ⟨rfl, rfl, rfl, by decide +kernel, rfl, by decide +kernel, by decide +kernel⟩
theorem ok_mend {f : Addr} {fd : FuncData} (F : Fun K "mend" "mend" s_mend f fd) (T : Txt K mg ad) (C_can_share : Callee P w K mg base 1 "can_share" ["k", "m"] (sp_can_share K)) (C_cut : Callee P w K mg base 1 "cut" ["data", "count", "size"] (sp_cut K)) (C_chain : Callee P w K mg base 1 "chain" ["rows"] (sp_chain K)) (C_make_shares : Callee P w K mg base 6 "make_shares" ["data", "m"] (sp_make_shares K)) (C_tell_data : Callee P w K mg base 5 "tell_data" ["k", "places", "shares"] (sp_tell_data K)) (C_answer : Callee P w K mg base 2 "answer" ["number", "rows"] (sp_answer K)) : FnOk P w K mg base CX0 7 f fd ["k", "m", "size", "there", "shares"] (sp_mend K) := by
  refine F.ok sc_mend (fun vs H Q E h => ?_) (fun cdv A outer s H vs Q E hr h => ?_)
  · obtain ⟨k, m, n, t, a, data, rfl, _⟩ := h; rfl
  obtain ⟨k, m, n, t, a, data, rfl, hs, hask, q⟩ := h
  have hask : (Sy22Neutral.word k && (Sy22Neutral.word m && (Sy22Neutral.word t && (Sy22Neutral.within n 0 64 && Sy22Neutral.just data (Sy22Neutral.only (Sy22Neutral.shareable k m) ((k.toNat + m.toNat) * n.toNat)))))) = true := hask
  simp only [Bool.and_eq_true] at hask
  obtain ⟨h1, h2, h2t, h3, h4⟩ := hask
  have hk := word_of h1
  have hm := word_of h2
  have ht := word_of h2t
  have hn : 0 ≤ n ∧ n ≤ 64 := by unfold Sy22Neutral.within at h3; simpa using h3
  obtain ⟨hb, hl⟩ := just_of h4
  rw [mend_eq] at q
  have e0 : iv data = nv (Sy22Neutral.nats data) := by rw [nv_iv, nats_back hb]
  rw [e0] at hs
  have db := nats_bytes hb
  have dl := nats_len data
  generalize Sy22Neutral.nats data = da at *
  obtain ⟨k, rfl⟩ : ∃ x : Nat, k = (x : Int) := ⟨k.toNat, by omega⟩
  obtain ⟨m, rfl⟩ : ∃ x : Nat, m = (x : Int) := ⟨m.toNat, by omega⟩
  obtain ⟨n, rfl⟩ : ∃ x : Nat, n = (x : Int) := ⟨n.toNat, by omega⟩
  obtain ⟨t, rfl⟩ : ∃ x : Nat, t = (x : Int) := ⟨t.toNat, by omega⟩
  rw [Int.toNat_natCast, Int.toNat_natCast, Int.toNat_natCast, Int.toNat_natCast] at q
  rw [Int.toNat_natCast, Int.toNat_natCast, Int.toNat_natCast] at hl
  refine ⟨_, (pss_cons (ps_if (PW.pt (pw_or (pt_not (pt_val (pe_fn C_can_share (hr.mono (by decide)) rfl (pa_cons (pv 0) (pa_cons (pv 1) pa_nil))))) (pw_or1 (pt_cmpR op_ne (pe_op op_shr (pv 3) (pe_op op_add (pv 0) (pv 1))) pe_int (nomark _))))) (pss_one (ps_ret (pe_fn C_answer (hr.mono (by decide)) rfl (pa_cons (pe_un un_neg pe_int) (pa_cons (pe_lst pa_nil) pa_nil))))) pss_nil)
      (pss_cons (ps_setLc (i := 5) rfl sc_mend.nd rfl rfl (sw_true rfl rfl rfl rfl) (pi_range1 rfl T.n_range (pa_cons (pe_op op_add (pv 0) (pv 1)) pa_nil)) (blkOk_by (own := [("place", 7)]) (by show blkC ["k", "m", "size", "there", "shares", "places", "data", "place"] (defScope s_mend) _ _ = true; decide +kernel)) (fun _ _ _ _ _ => pg_name (i := 7) sc_mend.nd rfl (Or.inl rfl)) (fun _ _ _ _ _ => (pts_one (pt_truthK (K := K) rfl (pe_op op_and (pe_op op_shr (pv 3) (pv 7)) pe_int) (fun _ => rfl)))) (fun _ _ _ _ _ => (pv 7)))
      (pss_cons (ps_if (pt_cmpR op_lt (pe_callB (c_lenK (K := K) rfl) (by rfl) T.n_len b_len (pa_cons (pv 5) pa_nil)) (pv 0) (nomark _)) (pss_one (ps_ret (pe_fn C_answer (hr.mono (by decide)) rfl (pa_cons (pe_un un_neg pe_int) (pa_cons (pe_lst pa_nil) pa_nil))))) pss_nil)
      (pss_cons (ps_set (i := 6) sc_mend.nd rfl (Or.inl rfl) (pe_fn C_tell_data (hr.mono (by decide)) rfl (pa_cons (pv 0) (pa_cons (pe_slice (sl_listK (K := K) rfl) (pv 5) po_none (po_some (pv 0))) (pa_cons (pe_fn C_cut (hr.mono (by decide)) rfl (pa_cons (pv 4) (pa_cons (pe_op op_add (pv 0) (pv 1)) (pa_cons (pv 2) pa_nil)))) pa_nil)))))
      (pss_one (ps_ret (pe_fn C_answer (hr.mono (by decide)) rfl (pa_cons (pe_op op_sub (pe_op op_add (pv 0) (pv 1)) (pe_callB (c_lenK (K := K) rfl) (by rfl) T.n_len b_len (pa_cons (pv 5) pa_nil))) (pa_cons (pe_lst (pa_cons (pe_fn C_chain (hr.mono (by decide)) rfl (pa_cons (pe_fn C_make_shares (hr.mono (by decide)) rfl (pa_cons (pv 6) (pa_cons (pv 1) pa_nil))) pa_nil)) pa_nil)) pa_nil))))))))), ?_⟩
  have L0 := Loc.start H
  have fin2 : ((k = 0 ∨ 32 < k + m) ∨ 2 ^ (k + m) ≤ t) → ∀ H1 p, Loc H H1 [(p, .lst [])] → sp_answer K ([.int (-2), .ref p] ++ []) H1 Q E0 := fun hb H1 p L1 => by
    refine use_answer [] L1 (L1.lst 0 rfl) (fun r h => by cases h) (by decide) fun p2 H2 L2 => ?_
    have e : Sy22.does (.mend k m n t da) = Sy22.only (-2) := by
      show (if k = 0 ∨ 32 < k + m then _ else if 2 ^ (k + m) ≤ t then _ else _) = _
      by_cases hc : k = 0 ∨ 32 < k + m
      · rw [if_pos hc]
      · rw [if_neg hc, if_pos (hb.resolve_left hc)]
    rw [e] at q
    exact q p2 H2 (L2.pick 1 rfl)
  walk_at "init"
  refine use_can_share ?_
  walk_at "go"
  refine r_ifn (fun hc => ?_) (fun hc => ?_)
  · refine ite_tt ?_
    walk_at "go"
    apply r_new L0 (by decide)
    intro p H1 L1
    walk_at "go"
    exact fin2 (.inl (by omega)) H1 p L1
  · have pw : 0 < 2 ^ (k + m) := Nat.two_pow_pos _
    walk_at "go"
    refine r_ifn (fun hc2 => ?_) (fun hc2 => ?_)
    · walk_at "go"
      apply r_new L0 (by decide)
      intro p H1 L1
      walk_at "go"
      exact fin2 (.inr (Nat.le_of_not_lt fun h => hc2 (Nat.div_eq_of_lt h))) H1 p L1
    · have htl : t < 2 ^ (k + m) := by
        rw [Nat.div_eq_zero_iff] at hc2
        omega
      clear fin2
      have hdl : da.length = (k + m) * n := by
        rw [dl, hl]
        have : Sy22Neutral.shareable (k : Int) (m : Int) = true := by
          unfold Sy22Neutral.shareable
          rw [Bool.and_eq_true, decide_eq_true_iff, decide_eq_true_iff]
          omega
        unfold Sy22Neutral.only
        rw [if_pos this]
      walk_at "go"
      refine ⟨((k + m : Nat) : Int), rfl, by omega, by omega, ?_⟩
      rw [Int.toNat_natCast]
      refine lc_fr L0 (by rw [sizeLine_eq]; omega) (fun i => t.testBit i) ?_ ?_ ?_
      · intro i hi H7 D o R L7 r
        walk_at "go"
        rw [tb_eq]
        exact r
      · intro i hi H7 D o R L7 r
        walk_at "go"
        exact r
      intro p1 H1 L1
      have pe : (List.range (k + m)).filter (fun i => t.testBit i) = Sy22.places (k + m) t := rfl
      rw [pe] at L1
      have pll : (Sy22.places (k + m) t).length ≤ k + m := by
        have := List.length_filter_le (fun i => t.testBit i) (List.range (k + m))
        rw [List.length_range] at this
        exact this
      walk_at "go"
      refine r_if (fun hc3 => ?_) (fun hc3 => ?_)
      · walk_at "go"
        apply r_new L1 (by decide)
        intro p H2 L2
        walk_at "go"
        refine use_answer [] L2 (L2.lst 1 rfl) (fun r h => by cases h) (by decide) fun p2 H3 L3 => ?_
        have e : Sy22.does (.mend k m n t da) = Sy22.only (-5) := by
          show (if k = 0 ∨ 32 < k + m then _ else if 2 ^ (k + m) ≤ t then _ else if (Sy22.places (k + m) t).length < k then _ else _) = _
          rw [if_neg (by omega), if_neg (by omega), if_pos hc3]
        rw [e] at q
        exact q p2 H3 (L3.pick 2 rfl)
      · have hpl : k ≤ (Sy22.places (k + m) t).length := by omega
        have e : Sy22.does (.mend k m n t da) = ⟨(k + m - (Sy22.places (k + m) t).length : Nat), [(Sy22.shares m n (Sy22.solve k (((Sy22.places (k + m) t).take k).map fun (s : Nat) => (Sy22.rowFor k s, (cutR da n (k + m)).getD s [])))).flatten]⟩ := by
          show (if k = 0 ∨ 32 < k + m then _ else if 2 ^ (k + m) ≤ t then _ else if (Sy22.places (k + m) t).length < k then _ else _) = _
          rw [if_neg (by omega), if_neg (by omega), if_neg hc3]
          rfl
        rw [e] at q
        have hall : (cutR da n (k + m)).length = k + m := cutR_len _ _ _
        have hlens : ∀ r ∈ cutR da n (k + m), r.length = n ∧ Bytes r := fun r hr => (cutR_dat (n := k + m) (size := n) db (by omega) (by omega) (by omega)).lens r hr
        obtain ⟨sD, sL⟩ := solve_dat (t := t) hall hlens hc.1 hc.2 hpl
        walk_at "go"
        refine r_slice L1 (L1.lst 0 rfl) fun p2 H2 L2 => ?_
        rw [nv_cutTo (by omega) (by omega), Int.toNat_natCast] at L2
        have hs2 := L2.arg hs
        walk_at "go"
        refine use_cut L2 hs2 (by omega) (by omega) (by omega) fun p3 as H3 hal L3 => ?_
        have hR3 : Rows K H3 p3 as (cutR da n (k + m)) := L3.rows (L3.lst 2 rfl) (by rw [cutR_len]; exact hal) fun x hx => List.mem_cons_of_mem _ (List.mem_cons_of_mem _ (List.mem_cons_of_mem _ hx))
        walk_at "go"
        refine use_tell_data (Loc.start H3) (L3.lst 1 rfl) hR3 hall hlens hc.1 hc.2 (by omega) hpl fun p4 bs H4 M4 hR4 => ?_
        have hp1 : SqL K H4 p1 (nv (Sy22.places (k + m) t)) := M4.same.seq (L3.lst 0 rfl)
        generalize Sy22.solve k (((Sy22.places (k + m) t).take k).map fun (s : Nat) => (Sy22.rowFor k s, (cutR da n (k + m)).getD s [])) = so at *
        have fl := shares_flat (m := m) sD
        rw [sL] at fl
        have hmn : (k + m) * n ≤ 32 * 64 := Nat.mul_le_mul hc.2 (by omega)
        walk_at "go"
        refine use_make_shares (Loc.start H4) hR4 sD (by omega) (by rw [sL]; exact hc.2) fun p5 cs H5 M5 hR5 => ?_
        walk_at "go"
        refine use_chain (Loc.start H5) hR5 (by omega) fun p6 H6 M6 => ?_
        walk_at "go"
        apply r_new M6 (by show 1 ≤ sizeLine; decide)
        intro p7 H7 M7
        walk_at "go"
        refine use_answer [(p6, (Sy22.shares m n so).flatten)] M7 (M7.lst 1 rfl) (fun x hx => ?_) ?_ fun p8 H8 M8 => ?_
        · simp only [List.mem_cons, List.not_mem_nil, or_false] at hx
          subst hx
          exact M7.get 0 rfl
        · unfold ans
          simp only [List.map_cons, List.map_nil, List.flatMap_cons, List.flatMap_nil, List.length_cons, List.length_append, List.length_map, List.length_nil]
          omega
        · exact q p8 H8 (((L3.then M4).then M5).then (M8.pick 2 rfl))
end
theorem all_mk {P : Program} {w : World} {K : PySem.W.Frag} {h : Heap} {mg : Str → Option Value} {fa : Addr} (X : K.In h) (G : h.Ns mainGlobals mg) (hfa : mg "mend" = some (.ref fa))
    {f_double : Addr} {od_double an_double : Option Addr} {sl_double : Array (Option Value)} {oc_double kV_double dc_double pm_double cd_double ct_double : Value}
    {f_multiples : Addr} {od_multiples an_multiples : Option Addr} {sl_multiples : Array (Option Value)} {oc_multiples kV_multiples dc_multiples pm_multiples cd_multiples ct_multiples : Value}
    {f_inverse : Addr} {od_inverse an_inverse : Option Addr} {sl_inverse : Array (Option Value)} {oc_inverse kV_inverse dc_inverse pm_inverse cd_inverse ct_inverse : Value}
    {f_can_share : Addr} {od_can_share an_can_share : Option Addr} {sl_can_share : Array (Option Value)} {oc_can_share kV_can_share dc_can_share pm_can_share cd_can_share ct_can_share : Value}
    {f_cut : Addr} {od_cut an_cut : Option Addr} {sl_cut : Array (Option Value)} {oc_cut kV_cut dc_cut pm_cut cd_cut ct_cut : Value}
    {f_chain : Addr} {od_chain an_chain : Option Addr} {sl_chain : Array (Option Value)} {oc_chain kV_chain dc_chain pm_chain cd_chain ct_chain : Value}
    {f_factors_of : Addr} {od_factors_of an_factors_of : Option Addr} {sl_factors_of : Array (Option Value)} {oc_factors_of kV_factors_of dc_factors_of pm_factors_of cd_factors_of ct_factors_of : Value}
    {f_add_multiple : Addr} {od_add_multiple an_add_multiple : Option Addr} {sl_add_multiple : Array (Option Value)} {oc_add_multiple kV_add_multiple dc_add_multiple pm_add_multiple cd_add_multiple ct_add_multiple : Value}
    {f_make_share : Addr} {od_make_share an_make_share : Option Addr} {sl_make_share : Array (Option Value)} {oc_make_share kV_make_share dc_make_share pm_make_share cd_make_share ct_make_share : Value}
    {f_make_shares : Addr} {od_make_shares an_make_shares : Option Addr} {sl_make_shares : Array (Option Value)} {oc_make_shares kV_make_shares dc_make_shares pm_make_shares cd_make_shares ct_make_shares : Value}
    {f_solve : Addr} {od_solve an_solve : Option Addr} {sl_solve : Array (Option Value)} {oc_solve kV_solve dc_solve pm_solve cd_solve ct_solve : Value}
    {f_tell_data : Addr} {od_tell_data an_tell_data : Option Addr} {sl_tell_data : Array (Option Value)} {oc_tell_data kV_tell_data dc_tell_data pm_tell_data cd_tell_data ct_tell_data : Value}
    {f_lay_out : Addr} {od_lay_out an_lay_out : Option Addr} {sl_lay_out : Array (Option Value)} {oc_lay_out kV_lay_out dc_lay_out pm_lay_out cd_lay_out ct_lay_out : Value}
    {f_answer : Addr} {od_answer an_answer : Option Addr} {sl_answer : Array (Option Value)} {oc_answer kV_answer dc_answer pm_answer cd_answer ct_answer : Value}
    {f_mend : Addr} {od_mend an_mend : Option Addr} {sl_mend : Array (Option Value)} {oc_mend kV_mend dc_mend pm_mend cd_mend ct_mend : Value}
    {i_MOST_SHARES : Tok}
    (a_double : PySem.W.nsIn K mainGlobals "double" = some (some (.ref f_double))) (l_double : K.lookup f_double = some ⟨oc_double, od_double, .func (PySem.W.fnOf "double" "double" (defArgs s_double) (defBody s_double) (defScope s_double) .none kV_double dc_double pm_double an_double cd_double ct_double), sl_double⟩) (c_double : PySem.W.codeIn K cd_double "double" = true) (k_double : PySem.W.keepIn K (.ref f_double) = true)
    (a_multiples : PySem.W.nsIn K mainGlobals "multiples" = some (some (.ref f_multiples))) (l_multiples : K.lookup f_multiples = some ⟨oc_multiples, od_multiples, .func (PySem.W.fnOf "multiples" "multiples" (defArgs s_multiples) (defBody s_multiples) (defScope s_multiples) .none kV_multiples dc_multiples pm_multiples an_multiples cd_multiples ct_multiples), sl_multiples⟩) (c_multiples : PySem.W.codeIn K cd_multiples "multiples" = true) (k_multiples : PySem.W.keepIn K (.ref f_multiples) = true)
    (a_inverse : PySem.W.nsIn K mainGlobals "inverse" = some (some (.ref f_inverse))) (l_inverse : K.lookup f_inverse = some ⟨oc_inverse, od_inverse, .func (PySem.W.fnOf "inverse" "inverse" (defArgs s_inverse) (defBody s_inverse) (defScope s_inverse) .none kV_inverse dc_inverse pm_inverse an_inverse cd_inverse ct_inverse), sl_inverse⟩) (c_inverse : PySem.W.codeIn K cd_inverse "inverse" = true) (k_inverse : PySem.W.keepIn K (.ref f_inverse) = true)
    (a_can_share : PySem.W.nsIn K mainGlobals "can_share" = some (some (.ref f_can_share))) (l_can_share : K.lookup f_can_share = some ⟨oc_can_share, od_can_share, .func (PySem.W.fnOf "can_share" "can_share" (defArgs s_can_share) (defBody s_can_share) (defScope s_can_share) .none kV_can_share dc_can_share pm_can_share an_can_share cd_can_share ct_can_share), sl_can_share⟩) (c_can_share : PySem.W.codeIn K cd_can_share "can_share" = true) (k_can_share : PySem.W.keepIn K (.ref f_can_share) = true)
    (a_cut : PySem.W.nsIn K mainGlobals "cut" = some (some (.ref f_cut))) (l_cut : K.lookup f_cut = some ⟨oc_cut, od_cut, .func (PySem.W.fnOf "cut" "cut" (defArgs s_cut) (defBody s_cut) (defScope s_cut) .none kV_cut dc_cut pm_cut an_cut cd_cut ct_cut), sl_cut⟩) (c_cut : PySem.W.codeIn K cd_cut "cut" = true) (k_cut : PySem.W.keepIn K (.ref f_cut) = true)
    (a_chain : PySem.W.nsIn K mainGlobals "chain" = some (some (.ref f_chain))) (l_chain : K.lookup f_chain = some ⟨oc_chain, od_chain, .func (PySem.W.fnOf "chain" "chain" (defArgs s_chain) (defBody s_chain) (defScope s_chain) .none kV_chain dc_chain pm_chain an_chain cd_chain ct_chain), sl_chain⟩) (c_chain : PySem.W.codeIn K cd_chain "chain" = true) (k_chain : PySem.W.keepIn K (.ref f_chain) = true)
    (a_factors_of : PySem.W.nsIn K mainGlobals "factors_of" = some (some (.ref f_factors_of))) (l_factors_of : K.lookup f_factors_of = some ⟨oc_factors_of, od_factors_of, .func (PySem.W.fnOf "factors_of" "factors_of" (defArgs s_factors_of) (defBody s_factors_of) (defScope s_factors_of) .none kV_factors_of dc_factors_of pm_factors_of an_factors_of cd_factors_of ct_factors_of), sl_factors_of⟩) (c_factors_of : PySem.W.codeIn K cd_factors_of "factors_of" = true) (k_factors_of : PySem.W.keepIn K (.ref f_factors_of) = true)
    (a_add_multiple : PySem.W.nsIn K mainGlobals "add_multiple" = some (some (.ref f_add_multiple))) (l_add_multiple : K.lookup f_add_multiple = some ⟨oc_add_multiple, od_add_multiple, .func (PySem.W.fnOf "add_multiple" "add_multiple" (defArgs s_add_multiple) (defBody s_add_multiple) (defScope s_add_multiple) .none kV_add_multiple dc_add_multiple pm_add_multiple an_add_multiple cd_add_multiple ct_add_multiple), sl_add_multiple⟩) (c_add_multiple : PySem.W.codeIn K cd_add_multiple "add_multiple" = true) (k_add_multiple : PySem.W.keepIn K (.ref f_add_multiple) = true)
    (a_make_share : PySem.W.nsIn K mainGlobals "make_share" = some (some (.ref f_make_share))) (l_make_share : K.lookup f_make_share = some ⟨oc_make_share, od_make_share, .func (PySem.W.fnOf "make_share" "make_share" (defArgs s_make_share) (defBody s_make_share) (defScope s_make_share) .none kV_make_share dc_make_share pm_make_share an_make_share cd_make_share ct_make_share), sl_make_share⟩) (c_make_share : PySem.W.codeIn K cd_make_share "make_share" = true) (k_make_share : PySem.W.keepIn K (.ref f_make_share) = true)
    (a_make_shares : PySem.W.nsIn K mainGlobals "make_shares" = some (some (.ref f_make_shares))) (l_make_shares : K.lookup f_make_shares = some ⟨oc_make_shares, od_make_shares, .func (PySem.W.fnOf "make_shares" "make_shares" (defArgs s_make_shares) (defBody s_make_shares) (defScope s_make_shares) .none kV_make_shares dc_make_shares pm_make_shares an_make_shares cd_make_shares ct_make_shares), sl_make_shares⟩) (c_make_shares : PySem.W.codeIn K cd_make_shares "make_shares" = true) (k_make_shares : PySem.W.keepIn K (.ref f_make_shares) = true)
    (a_solve : PySem.W.nsIn K mainGlobals "solve" = some (some (.ref f_solve))) (l_solve : K.lookup f_solve = some ⟨oc_solve, od_solve, .func (PySem.W.fnOf "solve" "solve" (defArgs s_solve) (defBody s_solve) (defScope s_solve) .none kV_solve dc_solve pm_solve an_solve cd_solve ct_solve), sl_solve⟩) (c_solve : PySem.W.codeIn K cd_solve "solve" = true) (k_solve : PySem.W.keepIn K (.ref f_solve) = true)
    (a_tell_data : PySem.W.nsIn K mainGlobals "tell_data" = some (some (.ref f_tell_data))) (l_tell_data : K.lookup f_tell_data = some ⟨oc_tell_data, od_tell_data, .func (PySem.W.fnOf "tell_data" "tell_data" (defArgs s_tell_data) (defBody s_tell_data) (defScope s_tell_data) .none kV_tell_data dc_tell_data pm_tell_data an_tell_data cd_tell_data ct_tell_data), sl_tell_data⟩) (c_tell_data : PySem.W.codeIn K cd_tell_data "tell_data" = true) (k_tell_data : PySem.W.keepIn K (.ref f_tell_data) = true)
    (a_lay_out : PySem.W.nsIn K mainGlobals "lay_out" = some (some (.ref f_lay_out))) (l_lay_out : K.lookup f_lay_out = some ⟨oc_lay_out, od_lay_out, .func (PySem.W.fnOf "lay_out" "lay_out" (defArgs s_lay_out) (defBody s_lay_out) (defScope s_lay_out) .none kV_lay_out dc_lay_out pm_lay_out an_lay_out cd_lay_out ct_lay_out), sl_lay_out⟩) (c_lay_out : PySem.W.codeIn K cd_lay_out "lay_out" = true) (k_lay_out : PySem.W.keepIn K (.ref f_lay_out) = true)
    (a_answer : PySem.W.nsIn K mainGlobals "answer" = some (some (.ref f_answer))) (l_answer : K.lookup f_answer = some ⟨oc_answer, od_answer, .func (PySem.W.fnOf "answer" "answer" (defArgs s_answer) (defBody s_answer) (defScope s_answer) .none kV_answer dc_answer pm_answer an_answer cd_answer ct_answer), sl_answer⟩) (c_answer : PySem.W.codeIn K cd_answer "answer" = true) (k_answer : PySem.W.keepIn K (.ref f_answer) = true)
    (a_mend : PySem.W.nsIn K mainGlobals "mend" = some (some (.ref f_mend))) (l_mend : K.lookup f_mend = some ⟨oc_mend, od_mend, .func (PySem.W.fnOf "mend" "mend" (defArgs s_mend) (defBody s_mend) (defScope s_mend) .none kV_mend dc_mend pm_mend an_mend cd_mend ct_mend), sl_mend⟩) (c_mend : PySem.W.codeIn K cd_mend "mend" = true) (k_mend : PySem.W.keepIn K (.ref f_mend) = true)
    (a_MOST_SHARES : PySem.W.nsIn K mainGlobals "MOST_SHARES" = some (some (.int 32 i_MOST_SHARES)))
    (z_range : PySem.W.nsIn K mainGlobals "range" = some none)
    (z_len : PySem.W.nsIn K mainGlobals "len" = some none)
    (z_list : PySem.W.nsIn K mainGlobals "list" = some none)
    (z_zip : PySem.W.nsIn K mainGlobals "zip" = some none) :
    ∃ fd : FuncData, (∀ (s : Shared) (us : List Value), us.length = (["k", "m", "size", "there", "shares"] : List Str).length → BindsTo s fd ⟨us, []⟩ ((["k", "m", "size", "there", "shares"] : List Str).zip us)) ∧ ∀ base : Heap, K.In base → base.Ns mainGlobals mg → FnOk P w K mg base CX0 7 fa fd ["k", "m", "size", "there", "shares"] (sp_mend K) := by
  have e := hfa.symm.trans (PySem.W.mg_of X G a_mend)
  cases e
  let ad : Adr := ⟨0⟩
  have T : Txt K mg ad := ⟨⟨_, PySem.W.mg_of X G a_MOST_SHARES⟩, PySem.W.mg_none_of X G z_range, PySem.W.mg_none_of X G z_len, PySem.W.mg_none_of X G z_list, PySem.W.mg_none_of X G z_zip⟩
  have F_double := fun_mk (st := s_double) l_double c_double k_double
  have b_double := F_double.binds (ps := ["byte"]) fun _ _ _ _ _ _ us hl => match us, hl with | [_], _ => rfl
  have F_multiples := fun_mk (st := s_multiples) l_multiples c_multiples k_multiples
  have b_multiples := F_multiples.binds (ps := ["factor"]) fun _ _ _ _ _ _ us hl => match us, hl with | [_], _ => rfl
  have F_inverse := fun_mk (st := s_inverse) l_inverse c_inverse k_inverse
  have b_inverse := F_inverse.binds (ps := ["byte"]) fun _ _ _ _ _ _ us hl => match us, hl with | [_], _ => rfl
  have F_can_share := fun_mk (st := s_can_share) l_can_share c_can_share k_can_share
  have b_can_share := F_can_share.binds (ps := ["k", "m"]) fun _ _ _ _ _ _ us hl => match us, hl with | [_, _], _ => rfl
  have F_cut := fun_mk (st := s_cut) l_cut c_cut k_cut
  have b_cut := F_cut.binds (ps := ["data", "count", "size"]) fun _ _ _ _ _ _ us hl => match us, hl with | [_, _, _], _ => rfl
  have F_chain := fun_mk (st := s_chain) l_chain c_chain k_chain
  have b_chain := F_chain.binds (ps := ["rows"]) fun _ _ _ _ _ _ us hl => match us, hl with | [_], _ => rfl
  have F_factors_of := fun_mk (st := s_factors_of) l_factors_of c_factors_of k_factors_of
  have b_factors_of := F_factors_of.binds (ps := ["k", "place"]) fun _ _ _ _ _ _ us hl => match us, hl with | [_, _], _ => rfl
  have F_add_multiple := fun_mk (st := s_add_multiple) l_add_multiple c_add_multiple k_add_multiple
  have b_add_multiple := F_add_multiple.binds (ps := ["row", "factor", "other"]) fun _ _ _ _ _ _ us hl => match us, hl with | [_, _, _], _ => rfl
  have F_make_share := fun_mk (st := s_make_share) l_make_share c_make_share k_make_share
  have b_make_share := F_make_share.binds (ps := ["data", "place"]) fun _ _ _ _ _ _ us hl => match us, hl with | [_, _], _ => rfl
  have F_make_shares := fun_mk (st := s_make_shares) l_make_shares c_make_shares k_make_shares
  have b_make_shares := F_make_shares.binds (ps := ["data", "m"]) fun _ _ _ _ _ _ us hl => match us, hl with | [_, _], _ => rfl
  have F_solve := fun_mk (st := s_solve) l_solve c_solve k_solve
  have b_solve := F_solve.binds (ps := ["rows", "k"]) fun _ _ _ _ _ _ us hl => match us, hl with | [_, _], _ => rfl
  have F_tell_data := fun_mk (st := s_tell_data) l_tell_data c_tell_data k_tell_data
  have b_tell_data := F_tell_data.binds (ps := ["k", "places", "shares"]) fun _ _ _ _ _ _ us hl => match us, hl with | [_, _, _], _ => rfl
  have F_lay_out := fun_mk (st := s_lay_out) l_lay_out c_lay_out k_lay_out
  have b_lay_out := F_lay_out.binds (ps := ["rows"]) fun _ _ _ _ _ _ us hl => match us, hl with | [_], _ => rfl
  have F_answer := fun_mk (st := s_answer) l_answer c_answer k_answer
  have b_answer := F_answer.binds (ps := ["number", "rows"]) fun _ _ _ _ _ _ us hl => match us, hl with | [_, _], _ => rfl
  have F_mend := fun_mk (st := s_mend) l_mend c_mend k_mend
  refine ⟨PySem.W.fnOf "mend" "mend" (defArgs s_mend) (defBody s_mend) (defScope s_mend) .none kV_mend dc_mend pm_mend an_mend cd_mend ct_mend, fun s us hu => match us, hu with | [_, _, _, _, _], _ => .of_eq rfl, fun base _ _ => ?_⟩
  have C_double : Callee P w K mg base 1 "double" ["byte"] (sp_double K) := ⟨_, _, ok_double F_double T, PySem.W.mg_of X G a_double, k_double, b_double⟩
  have C_multiples : Callee P w K mg base 2 "multiples" ["factor"] (sp_multiples K) := ⟨_, _, ok_multiples F_multiples T C_double, PySem.W.mg_of X G a_multiples, k_multiples, b_multiples⟩
  have C_inverse : Callee P w K mg base 3 "inverse" ["byte"] (sp_inverse K) := ⟨_, _, ok_inverse F_inverse T C_multiples, PySem.W.mg_of X G a_inverse, k_inverse, b_inverse⟩
  have C_can_share : Callee P w K mg base 1 "can_share" ["k", "m"] (sp_can_share K) := ⟨_, _, ok_can_share F_can_share T, PySem.W.mg_of X G a_can_share, k_can_share, b_can_share⟩
  have C_cut : Callee P w K mg base 1 "cut" ["data", "count", "size"] (sp_cut K) := ⟨_, _, ok_cut F_cut T, PySem.W.mg_of X G a_cut, k_cut, b_cut⟩
  have C_chain : Callee P w K mg base 1 "chain" ["rows"] (sp_chain K) := ⟨_, _, ok_chain F_chain T, PySem.W.mg_of X G a_chain, k_chain, b_chain⟩
  have C_factors_of : Callee P w K mg base 4 "factors_of" ["k", "place"] (sp_factors_of K) := ⟨_, _, ok_factors_of F_factors_of T C_inverse, PySem.W.mg_of X G a_factors_of, k_factors_of, b_factors_of⟩
  have C_add_multiple : Callee P w K mg base 3 "add_multiple" ["row", "factor", "other"] (sp_add_multiple K) := ⟨_, _, ok_add_multiple F_add_multiple T C_multiples, PySem.W.mg_of X G a_add_multiple, k_add_multiple, b_add_multiple⟩
  have C_make_share : Callee P w K mg base 5 "make_share" ["data", "place"] (sp_make_share K) := ⟨_, _, ok_make_share F_make_share T C_factors_of C_add_multiple, PySem.W.mg_of X G a_make_share, k_make_share, b_make_share⟩
  have C_make_shares : Callee P w K mg base 6 "make_shares" ["data", "m"] (sp_make_shares K) := ⟨_, _, ok_make_shares F_make_shares T C_make_share, PySem.W.mg_of X G a_make_shares, k_make_shares, b_make_shares⟩
  have C_solve : Callee P w K mg base 4 "solve" ["rows", "k"] (sp_solve K) := ⟨_, _, ok_solve F_solve T C_multiples C_inverse C_add_multiple, PySem.W.mg_of X G a_solve, k_solve, b_solve⟩
  have C_tell_data : Callee P w K mg base 5 "tell_data" ["k", "places", "shares"] (sp_tell_data K) := ⟨_, _, ok_tell_data F_tell_data T C_factors_of C_solve, PySem.W.mg_of X G a_tell_data, k_tell_data, b_tell_data⟩
  have C_lay_out : Callee P w K mg base 1 "lay_out" ["rows"] (sp_lay_out K) := ⟨_, _, ok_lay_out F_lay_out T, PySem.W.mg_of X G a_lay_out, k_lay_out, b_lay_out⟩
  have C_answer : Callee P w K mg base 2 "answer" ["number", "rows"] (sp_answer K) := ⟨_, _, ok_answer F_answer T C_lay_out, PySem.W.mg_of X G a_answer, k_answer, b_answer⟩
  exact ok_mend F_mend T C_can_share C_cut C_chain C_make_shares C_tell_data C_answer
end My
open PySem PySem.W PyProof.Rows
set_option maxRecDepth 100000 in
set_option maxHeartbeats 0 in
theorem PySem.Challenge.cw_sealedrowsdesk_s08_mend_holds : PySem.Challenge.rw_sealedrowsdesk_s08_mend.Holds := by
  w_on; k_headS; (case hw => exact ⟨[.int 0, .int 0, .int 0, .int 0, .list []], by decide +kernel, by decide +kernel⟩)
  k_fillS
  refine L2.walk_specK (r := PySem.Challenge.rw_sealedrowsdesk_s08_mend) (k := 7) (CX := L2.CX0) (ps := ["k", "m", "size", "there", "shares"]) (sp := My.sp_mend) (by decide +kernel) rfl rfl ⟨rfl, by decide, by decide⟩ (fun w h Y => PySem.W.kIn_of Y) ?F ?S (fun _ _ _ _ z => z)
  case F =>
    intro w mg fa h Y KX G hmg
    refine' My.all_mk KX G hmg ?a_double ?l_double ?c_double ?k_double ?a_multiples ?l_multiples ?c_multiples ?k_multiples ?a_inverse ?l_inverse ?c_inverse ?k_inverse ?a_can_share ?l_can_share ?c_can_share ?k_can_share ?a_cut ?l_cut ?c_cut ?k_cut ?a_chain ?l_chain ?c_chain ?k_chain ?a_factors_of ?l_factors_of ?c_factors_of ?k_factors_of ?a_add_multiple ?l_add_multiple ?c_add_multiple ?k_add_multiple ?a_make_share ?l_make_share ?c_make_share ?k_make_share ?a_make_shares ?l_make_shares ?c_make_shares ?k_make_shares ?a_solve ?l_solve ?c_solve ?k_solve ?a_tell_data ?l_tell_data ?c_tell_data ?k_tell_data ?a_lay_out ?l_lay_out ?c_lay_out ?k_lay_out ?a_answer ?l_answer ?c_answer ?k_answer ?a_mend ?l_mend ?c_mend ?k_mend ?a_MOST_SHARES ?z_range ?z_len ?z_list ?z_zip
    (case a_double => k_is); (case l_double => k_is); (case c_double => k_is); (case k_double => k_is)
    (case a_multiples => k_is); (case l_multiples => k_is); (case c_multiples => k_is); (case k_multiples => k_is)
    (case a_inverse => k_is); (case l_inverse => k_is); (case c_inverse => k_is); (case k_inverse => k_is)
    (case a_can_share => k_is); (case l_can_share => k_is); (case c_can_share => k_is); (case k_can_share => k_is)
    (case a_cut => k_is); (case l_cut => k_is); (case c_cut => k_is); (case k_cut => k_is)
    (case a_chain => k_is); (case l_chain => k_is); (case c_chain => k_is); (case k_chain => k_is)
    (case a_factors_of => k_is); (case l_factors_of => k_is); (case c_factors_of => k_is); (case k_factors_of => k_is)
    (case a_add_multiple => k_is); (case l_add_multiple => k_is); (case c_add_multiple => k_is); (case k_add_multiple => k_is)
    (case a_make_share => k_is); (case l_make_share => k_is); (case c_make_share => k_is); (case k_make_share => k_is)
    (case a_make_shares => k_is); (case l_make_shares => k_is); (case c_make_shares => k_is); (case k_make_shares => k_is)
    (case a_solve => k_is); (case l_solve => k_is); (case c_solve => k_is); (case k_solve => k_is)
    (case a_tell_data => k_is); (case l_tell_data => k_is); (case c_tell_data => k_is); (case k_tell_data => k_is)
    (case a_lay_out => k_is); (case l_lay_out => k_is); (case c_lay_out => k_is); (case k_lay_out => k_is)
    (case a_answer => k_is); (case l_answer => k_is); (case c_answer => k_is); (case k_answer => k_is)
    (case a_mend => k_is); (case l_mend => k_is); (case c_mend => k_is); (case k_mend => k_is)
    (case a_MOST_SHARES => k_is)
    (case z_range => k_is)
    (case z_len => k_is)
    (case z_list => k_is)
    (case z_zip => k_is)
  case S =>
    intro K H xs a hO hwi hask hx
    obtain ⟨k, m, n, t, data, u⟩ := a
    cases hx with
    | cons h1 h2 =>
      cases h2 with
      | cons h2 h3 =>
        cases h3 with
        | cons h3 h4 =>
          cases h4 with
          | cons h4 h5 =>
            cases h5 with
            | cons h5 h6 =>
              cases h6
              cases h1
              cases h2
              cases h3
              cases h4
              cases h5 with
              | lst hs ha =>
                have e := L2.ints_dw data _ ha
                subst e
                exact ⟨k, m, n, t, _, data, rfl, hs, hask, fun p H' L => .lst (L.lst 0 rfl) (L2.dw_ints _)⟩
#print axioms PySem.Challenge.cw_sealedrowsdesk_s08_mend_holds
