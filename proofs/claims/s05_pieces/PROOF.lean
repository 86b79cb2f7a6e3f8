import PyProof.Rows.All
import Wide.All
import OpenK.AllK
import Wide.FinOn
import PyProof.EqAt
import PyProof.EqKinds
import PyProof.TupleCall
import KE.BitLaws
import Open.SpecLaws
import KE.OsHead
import KE.OsGo
import PySem.Challenge.RW_sealedrowsdesk_s05_pieces
section
set_option Elab.async false
set_option linter.all false
set_option maxRecDepth 100000
/-! THE HAND LAYER, for ints, bools, texts, own classes, lists, tuples, dicts, comprehensions, walks over dicts, enumerate, zip, reversed, texts, calls, loops. Paste it whole ahead of your own text; what your proof does not reach may be deleted. -/
namespace L2
open PySem PySem.Spec PyProof.Rows

/-- a key: an int or a str -/
abbrev Key := Sum Int Str
def keyIs : Key → Value → Bool
  | .inl k, v => Value.isInt k v
  | .inr x, v => Value.isStrOf x v
def keyH (w : World) : Key → Int
  | .inl k => hashInt k
  | .inr x => hashStr w x
theorem keyIs_shape : ∀ {k : Key} {v : Value}, keyIs k v = true → (∃ i t, k = Sum.inl i ∧ v = Value.int i t) ∨ (∃ x t, k = Sum.inr x ∧ v = Value.str x t)
  | .inl i, v, h => by
    obtain ⟨t, e⟩ := Value.isInt_shape (k := i) (v := v) h
    exact .inl ⟨i, t, rfl, e⟩
  | .inr x, v, h => by
    obtain ⟨t, e⟩ := Value.isStrOf_shape (x := x) (v := v) h
    exact .inr ⟨x, t, rfl, e⟩
theorem keyIs_int (i : Int) (t : Tok) : keyIs (.inl i) (.int i t) = true := by simp [keyIs, Value.isInt]
theorem keyIs_str (x : Str) (t : Tok) : keyIs (.inr x) (.str x t) = true := by simp [keyIs, Value.isStrOf]
theorem key_ll (a b : Int) : decide ((Sum.inl a : Key) = Sum.inl b) = (a == b) := by
  by_cases e : a = b
  · subst e; simp
  · have h : ¬ (Sum.inl a : Key) = Sum.inl b := fun q => e (Sum.inl.inj q)
    rw [decide_eq_false h]
    exact (beq_eq_false_iff_ne.mpr e).symm
theorem key_rr (a b : Str) : decide ((Sum.inr a : Key) = Sum.inr b) = decide (a = b) := by
  by_cases e : a = b
  · subst e; simp
  · have h : ¬ (Sum.inr a : Key) = Sum.inr b := fun q => e (Sum.inr.inj q)
    rw [decide_eq_false h, decide_eq_false e]
theorem key_lr (a : Int) (b : Str) : decide ((Sum.inl a : Key) = Sum.inr b) = false := decide_eq_false (fun q => nomatch q)
theorem key_rl (a : Str) (b : Int) : decide ((Sum.inr a : Key) = Sum.inl b) = false := decide_eq_false (fun q => nomatch q)

def mixKind (prog : Program) (w : World) : PySem.KeyKind prog w Key where
  is := keyIs
  hash := keyH w
  inj := fun v a b ha hb => by
    rcases keyIs_shape ha with ⟨i, t, rfl, rfl⟩ | ⟨x, t, rfl, rfl⟩
    · rcases keyIs_shape hb with ⟨j, u, rfl, e⟩ | ⟨y, u, rfl, e⟩
      · injection e with e1 _; rw [e1]
      · exact nomatch e
    · rcases keyIs_shape hb with ⟨j, u, rfl, e⟩ | ⟨y, u, rfl, e⟩
      · exact nomatch e
      · injection e with e1 _; rw [e1]
  byValue := fun k v h => by
    rcases keyIs_shape h with ⟨i, t, rfl, rfl⟩ | ⟨x, t, rfl, rfl⟩ <;> rfl
  pyHash := fun hv h => by
    rcases keyIs_shape hv with ⟨i, t, rfl, rfl⟩ | ⟨x, t, rfl, rfl⟩
    · exact wpAny_pyHash_int h
    · exact wpAny_pyHash_str h
  eqBool := fun hu hv h => by
    rcases keyIs_shape hu with ⟨i, t, rfl, rfl⟩ | ⟨x, t, rfl, rfl⟩
    · rcases keyIs_shape hv with ⟨j, u, rfl, rfl⟩ | ⟨y, u, rfl, rfl⟩
      · rw [key_ll] at h; exact wpAny_eqBool_int h
      · rw [key_lr] at h; exact SeqAt.EqAt.int_str i t y u _ _ _ _ h
    · rcases keyIs_shape hv with ⟨j, u, rfl, rfl⟩ | ⟨y, u, rfl, rfl⟩
      · rw [key_rl] at h; exact SeqAt.EqAt.str_int x t j u _ _ _ _ h
      · rw [key_rr] at h; exact wpAny_eqBool_str h
  «strs» := fun k x t v h => by
    rcases keyIs_shape h with ⟨i, u, rfl, e⟩ | ⟨y, u, rfl, e⟩
    · exact nomatch e
    · injection e with e1 _
      subst e1
      cases v <;> rfl

theorem mixKind_int (prog : Program) (w : World) (i : Int) (t : Tok) : (mixKind prog w).is (.inl i) (.int i t) = true := keyIs_int i t
theorem mixKind_str (prog : Program) (w : World) (x : Str) (t : Tok) : (mixKind prog w).is (.inr x) (.str x t) = true := keyIs_str x t
end L2

namespace L2
open PySem PySem.Spec PyProof.Rows

/-- a value, without the heap -/
inductive V where
  | non | bl (b : Bool) | int (i : Int) | str (x : Str) | byt (b : Array UInt8) | flt (b : UInt64) | ref (a : Addr) | ty (n : String)
  deriving DecidableEq

def RelV : V → Value → Prop
  | .non, u => u = Value.none
  | .bl b, u => u = Value.bool b
  | .int i, u => ∃ t, u = Value.int i t
  | .str x, u => ∃ t, u = Value.str x t
  | .byt b, u => ∃ t, u = Value.bytes b t
  | .flt b, u => ∃ t, u = Value.float b t
  | .ref a, u => u = Value.ref a
  | .ty n, u => u = Value.type n

abbrev Vals : List V → List Value → Prop := Paired RelV
theorem Vals.length {xs : List V} {us : List Value} (r : Vals xs us) : xs.length = us.length := Paired.length r
theorem Vals.get : ∀ {xs : List V} {us : List Value} {i : Nat} {x : V}, Vals xs us → xs[i]? = some x → ∃ u, us[i]? = some u ∧ RelV x u
  | _, _, _, _, .nil, e => by simp at e
  | _, _, 0, _, .cons r _, e => by simp at e; subst e; exact ⟨_, rfl, r⟩
  | _, _, i + 1, x, .cons _ t, e => by
    obtain ⟨u, h1, h2⟩ := Vals.get (i := i) (x := x) t (by simpa using e)
    exact ⟨u, by simpa using h1, h2⟩
theorem Vals.set {x : V} {u : Value} (r : RelV x u) : ∀ {xs : List V} {us : List Value} (i : Nat), Vals xs us → Vals (xs.set i x) (us.set i u)
  | _, _, _, .nil => .nil
  | _, _, 0, .cons _ t => .cons r t
  | _, _, i + 1, .cons q t => .cons q (Vals.set r i t)
theorem Vals.append : ∀ {xs ys : List V} {us ws : List Value}, Vals xs us → Vals ys ws → Vals (xs ++ ys) (us ++ ws)
  | _, _, _, _, .nil, s => s
  | _, _, _, _, .cons r t, s => .cons r (Vals.append t s)
theorem Vals.take : ∀ {xs : List V} {us : List Value} (n : Nat), Vals xs us → Vals (xs.take n) (us.take n)
  | _, _, 0, _ => .nil
  | _, _, _ + 1, .nil => .nil
  | _, _, n + 1, .cons r t => .cons r (Vals.take n t)
theorem Vals.drop : ∀ {xs : List V} {us : List Value} (n : Nat), Vals xs us → Vals (xs.drop n) (us.drop n)
  | _, _, 0, r => r
  | _, _, _ + 1, .nil => .nil
  | _, _, n + 1, .cons _ t => Vals.drop n t
theorem Vals.none_of : ∀ {xs : List V} {us : List Value} {i : Nat}, Vals xs us → xs[i]? = none → us[i]? = none := fun {xs us i} r e => by
  have h1 := r.length
  have h2 : xs.length ≤ i := List.getElem?_eq_none_iff.mp e
  exact List.getElem?_eq_none_iff.mpr (by omega)

def RelO : Option V → Option Value → Prop
  | some v, some u => RelV v u
  | none, none => True
  | _, _ => False
def KV {κ : Type} : List (κ × V) → List (κ × Value) → Prop := Paired fun (p : κ × V) (q : κ × Value) => p.1 = q.1 ∧ RelV p.2 q.2

/-- a key of a dict (00_mix): an int or a text -/
def kV : Key → V
  | .inl i => .int i
  | .inr x => .str x

/-- what stands at a tracked address -/
inductive HO where
  /-- a list -/
  | lst (xs : List V)
  /-- a tuple (never changes) -/
  | tup (xs : List V)
  /-- a dict whose keys are ints and texts; one whose keys are tuples of ints and texts (the empty one is both) -/
  | dK (kvs : List (Key × V)) | dT (kvs : List (List Key × V))
  /-- a set of ints: its members, its size -/
  | set (S : Int → Bool) (n : Nat)
  /-- an instance of the class at C, its dict at dx, its attributes -/
  | ins (C dx : Addr) (fs : List (Str × V))
  /-- the dict of the instance at x -/
  | own (x : Addr)
  /-- the dict of an exception -/
  | xd (fs : List (Str × V))
  /-- a bound method, f of x -/
  | met (f x : Addr)
  /-- a range object lo, lo + 1, .. below hi -/
  | rng (lo hi : Int)
  /-- a thing that is known to the object (the script; a dict while a loop walks it): read, never written while it is so -/
  | frz (o : Obj) (u : HO)
  /-- a code object's table -/
  | tbl (ps : Array Value)
  /-- any other thing, by what is true of its one object (a def of one's own: SetO a S n := HO.ext fun h => ..) -/
  | ext (φ : Heap → Prop)

abbrev Hp := Addr → Option HO
def upd (H : Hp) (a : Addr) (o : HO) : Hp := fun b => if b = a then some o else H b
theorem upd_same {H : Hp} {a : Addr} {o : HO} : upd H a o a = some o := by unfold upd; rw [if_pos rfl]
theorem upd_ne {H : Hp} {a b : Addr} {o : HO} (h : b ≠ a) : upd H a o b = H b := by unfold upd; rw [if_neg h]
/-- two objects of different content stand apart -/
theorem ne_of {H : Hp} {a b : Addr} {o u : HO} (h : H a = some o) (h' : H b = some u) (d : o ≠ u) : a ≠ b := by
  intro e; subst e; rw [h] at h'; exact d (Option.some.inj h')
theorem ne_of_none {H : Hp} {a b : Addr} {o : HO} (h : H a = some o) (h' : H b = none) : a ≠ b := by
  intro e; subst e; rw [h] at h'; cases h'

section
variable (P : Program) (w : World)
def ObjOk (H : Hp) (h : Heap) (a : Addr) : HO → Prop
  | .lst xs => xs.length ≤ sizeLine ∧ ∃ (its : List Value) (n : Nat), Vals xs its ∧ h.get? a = some { cls := .type "list", data := .seq its.toArray n }
  | .tup xs => xs.length ≤ sizeLine ∧ ∃ its : List Value, Vals xs its ∧ IsTup h a its.toArray
  | .dK kvs => kvs.length ≤ sizeLine ∧ (a == sysModules) = false ∧ ∃ vs, KV kvs vs ∧ h.DictOf (mixKind P w) a vs
  | .dT kvs => kvs.length ≤ sizeLine ∧ (a == sysModules) = false ∧ ∃ xs : List (List Key × Addr × Value),
      Paired (fun (p : List Key × V) (q : List Key × Addr × Value) => p.1 = q.1 ∧ H q.2.1 = some (.tup (p.1.map kV)) ∧ RelV p.2 q.2.2) kvs xs ∧
      ∃ o es ep, h.get? a = some o ∧ o.ExactDict ∧ o.data = .dict es ep ∧ es.toList = xs.map (entryOfKey (tupleKind (mixKind P w))) ∧ (xs.map (·.1)).Nodup
  | .set S n => h.SetOf (intKind P w) a S n
  | .ins C dx fs => H dx = some (.own a) ∧ fs.length ≤ 1000 ∧ dx ≠ a ∧ h.get? a = some (PySem.W.instObj C dx) ∧
      ∃ mA, h.Ns1 dx mA ∧ (∀ f, RelO (fs.lookup f) (mA f)) ∧ PySem.Within mA (fs.map (·.1))
  | .own _ => ∃ o, h.get? a = some o
  | .xd fs => ∃ mA, h.Ns1 a mA ∧ ∀ f, RelO (fs.lookup f) (mA f)
  | .rng lo hi => ∃ t u v, h.get? a = some { cls := .type "range", data := .fields #[.int lo t, .int hi u, .int 1 v] }
  | .frz o u => h.get? a = some o ∧ ObjOk H h a u
  | .tbl ps => h.get? a = some { cls := .none, data := .fields ps }
  | .met f x => h.get? a = some (PySem.W.methodObj (.ref f) (.ref x))
  | .ext φ => φ h ∧ (∃ o, h.get? a = some o) ∧ ∀ h1 h2 : Heap, φ h1 → (∀ o, h1.get? a = some o → h2.get? a = some o) → φ h2
/-- the abstract heap is held -/
def HOk (H : Hp) (h : Heap) : Prop := ∀ a o, H a = some o → ObjOk P w H h a o
end

section
variable {P : Program} {w : World} {H H' : Hp} {h h' : Heap} {a : Addr} {o : HO}
theorem ObjOk.lt (x : ObjOk P w H h a o) : a < h.objs.size := by
  cases o with
  | lst xs => obtain ⟨_, _, _, _, e⟩ := x; exact Heap.lt_size e
  | tup xs => obtain ⟨_, _, _, p⟩ := x; exact p.lt
  | dK kvs => obtain ⟨_, _, _, _, o, _, _, e, _⟩ := x; exact Heap.lt_size e
  | dT kvs => obtain ⟨_, _, _, _, o, _, _, e, _⟩ := x; exact Heap.lt_size e
  | set S n => obtain ⟨o, _, _, _, e, _⟩ := x; exact Heap.lt_size e
  | ins C dx fs => obtain ⟨_, _, _, e, _⟩ := x; exact Heap.lt_size e
  | own y => obtain ⟨_, e⟩ := x; exact Heap.lt_size e
  | xd fs => obtain ⟨_, ⟨_, _, _, e, _⟩, _⟩ := x; exact Heap.lt_size e
  | rng lo hi => obtain ⟨_, _, _, e⟩ := x; exact Heap.lt_size e
  | frz ob u => obtain ⟨e, _⟩ := x; exact Heap.lt_size e
  | tbl ps => exact Heap.lt_size (show h.get? a = some _ from x)
  | met f y => exact Heap.lt_size (show h.get? a = some _ from x)
  | ext φ => obtain ⟨_, ⟨_, e⟩, _⟩ := x; exact Heap.lt_size e
theorem Paired.mapP {α β : Type} {F G : α → β → Prop} : ∀ {l₁ : List α} {l₂ : List β}, Paired F l₁ l₂ → (∀ a b, F a b → G a b) → Paired G l₁ l₂
  | _, _, .nil, _ => .nil
  | _, _, .cons r t, f => .cons (f _ _ r) (Paired.mapP t f)
/-- what an object's description leans on: its own object, its own dict, the tuples -/
theorem ObjOk.stay (x : ObjOk P w H h a o) (k : ∀ b u, (b = a ∨ H b = some (.own a)) → h.get? b = some u → h'.get? b = some u)
    (ho : ∀ b, H b = some (.own a) → H' b = some (.own a)) (ht : ∀ b xs, H b = some (.tup xs) → H' b = some (.tup xs)) : ObjOk P w H' h' a o := by
  induction o with
  | lst xs => obtain ⟨z, its, n, r, e⟩ := x; exact ⟨z, its, n, r, k _ _ (.inl rfl) e⟩
  | tup xs => obtain ⟨z, its, r, ob, e, c⟩ := x; exact ⟨z, its, r, ob, k _ _ (.inl rfl) e, c⟩
  | dK kvs => obtain ⟨z, y, vs, r, ob, es, ep, e, c⟩ := x; exact ⟨z, y, vs, r, ob, es, ep, k _ _ (.inl rfl) e, c⟩
  | dT kvs =>
    obtain ⟨z, y, xs, r, ob, es, ep, e, c⟩ := x
    exact ⟨z, y, xs, Paired.mapP r fun p q z => ⟨z.1, ht _ _ z.2.1, z.2.2⟩, ob, es, ep, k _ _ (.inl rfl) e, c⟩
  | set S n => obtain ⟨ob, es, ep, t, e, c⟩ := x; exact ⟨ob, es, ep, t, k _ _ (.inl rfl) e, c⟩
  | ins C dx fs =>
    obtain ⟨d, z, ne, e, mA, ⟨od, es, ep, e2, c⟩, r⟩ := x
    exact ⟨ho _ d, z, ne, k _ _ (.inl rfl) e, mA, ⟨od, es, ep, k _ _ (.inr d) e2, c⟩, r⟩
  | own y => obtain ⟨ob, e⟩ := x; exact ⟨ob, k _ _ (.inl rfl) e⟩
  | xd fs => obtain ⟨mA, ⟨od, es, ep, e, c⟩, r⟩ := x; exact ⟨mA, ⟨od, es, ep, k _ _ (.inl rfl) e, c⟩, r⟩
  | rng lo hi => obtain ⟨t, u, v, e⟩ := x; exact ⟨t, u, v, k _ _ (.inl rfl) e⟩
  | frz ob u ih => obtain ⟨e, q⟩ := x; exact ⟨k _ _ (.inl rfl) e, ih q⟩
  | tbl ps =>
    have e : h.get? a = some { cls := .none, data := .fields ps } := x
    show h'.get? a = some { cls := .none, data := .fields ps }
    exact k a _ (.inl rfl) e
  | met f y =>
    have e : h.get? a = some (PySem.W.methodObj (.ref f) (.ref y)) := x
    show h'.get? a = some (PySem.W.methodObj (.ref f) (.ref y))
    exact k a _ (.inl rfl) e
  | ext φ => obtain ⟨p, ⟨o, e⟩, st⟩ := x; exact ⟨st _ _ p fun o q => k _ _ (.inl rfl) q, ⟨o, k _ _ (.inl rfl) e⟩, st⟩
theorem HOk.lt (x : HOk P w H h) (e : H a = some o) : a < h.objs.size := (x a o e).lt
theorem HOk.fresh (x : HOk P w H h) (e : h.objs.size ≤ a) : H a = none := by
  cases q : H a with
  | none => rfl
  | some u => exact absurd (Nat.lt_of_lt_of_le (x.lt q) e) (Nat.lt_irrefl _)
/-- every object of the heap is kept -/
theorem HOk.kept (x : HOk P w H h) (k : ∀ b u, h.get? b = some u → h'.get? b = some u) : HOk P w H h' := fun a o e =>
  (x a o e).stay (fun b u _ q => k b u q) (fun _ q => q) fun _ _ q => q
/-- a new object is laid and tracked -/
theorem HOk.laid (x : HOk P w H h) (k : ∀ b u, h.get? b = some u → h'.get? b = some u) (hp : h.objs.size ≤ a) (new : ObjOk P w (upd H a o) h' a o) : HOk P w (upd H a o) h' := fun b u e => by
  have hn := x.fresh hp
  by_cases hb : b = a
  · subst hb; rw [upd_same] at e; cases e; exact new
  · rw [upd_ne hb] at e
    exact (x b u e).stay (fun c v _ q => k c v q) (fun c q => by rw [upd_ne (ne_of_none q hn)]; exact q) fun c xs q => by rw [upd_ne (ne_of_none q hn)]; exact q
end

/-- what may be read as u: it is u, or a known u -/
def Rd (H : Hp) (a : Addr) (u : HO) : Prop := H a = some u ∨ ∃ o, H a = some (.frz o u)
theorem Rd.of {H : Hp} {a : Addr} {u : HO} (h : H a = some u) : Rd H a u := .inl h
theorem Rd.ok {P : Program} {w : World} {H : Hp} {h : Heap} {a : Addr} {u : HO} (r : Rd H a u) (x : HOk P w H h) : ObjOk P w H h a u := by
  rcases r with r | ⟨o, r⟩
  · exact x a u r
  · obtain ⟨_, q⟩ := x a _ r
    exact q
/-- what may be written -/
def Mut : Option HO → Prop
  | some (.lst _) => True
  | some (.dK _) => True
  | some (.dT _) => True
  | some (.set _ _) => True
  | some (.ins _ _ _) => True
  | some (.ext _) => True
  | _ => False
section
variable {P : Program} {w : World} {H : Hp} {h h' : Heap} {x e : Addr} {o' : HO}
/-- the object at e is changed: x itself, or the dict of the instance x -/
theorem HOk.write (ok : HOk P w H h) (mu : Mut (H x)) (he : e = x ∨ H e = some (.own x)) (k : ∀ b u, b ≠ e → h.get? b = some u → h'.get? b = some u) (heo : ∃ u, h'.get? e = some u)
    (new : ObjOk P w (upd H x o') h' x o') : HOk P w (upd H x o') h' := fun b u q => by
  have nown : ∀ c y, H c = some (.own y) → c ≠ x := fun c y r z => by subst z; rw [r] at mu; exact mu
  have ntup : ∀ c xs, H c = some (.tup xs) → c ≠ x := fun c xs r z => by subst z; rw [r] at mu; exact mu
  by_cases hb : b = x
  · subst hb; rw [upd_same] at q; cases q; exact new
  · rw [upd_ne hb] at q
    by_cases hbe : b = e
    · have q' : H b = some (.own x) := by
        rcases he with z | z
        · exact absurd (hbe.trans z) hb
        · rw [hbe]; exact z
      rw [q] at q'; cases q'
      obtain ⟨v, hv⟩ := heo
      exact ⟨v, by rw [hbe]; exact hv⟩
    · refine (ok b u q).stay (fun c v hc r => k c v ?_ r) (fun c r => by rw [upd_ne (nown c b r)]; exact r) fun c xs r => by rw [upd_ne (ntup c xs r)]; exact r
      rcases hc with rfl | hc
      · exact hbe
      · rintro rfl
        rcases he with z | z
        · exact nown c b hc z
        · rw [hc] at z; cases z; exact hb rfl
end

/-! ### kept unless tracked; of the frames at fs (the callers') the slots may change (an exception that passes writes there); of the records at ex (iterators) nothing is said -/
structure Un (fs ex : List Addr) (H H' : Hp) (h h' : Heap) : Prop where
  keep : ∀ b o, h.get? b = some o → H b = none → b ∉ fs → b ∉ ex → h'.get? b = some o
  slot : ∀ b o, h.get? b = some o → H b = none → b ∈ fs → b ∉ ex → ∃ sl, h'.get? b = some { o with slots := sl }
  free : ∀ b o, h.get? b = some o → H b = none → b ∉ ex → H' b = none
  there : ∀ b o, h.get? b = some o → b ∉ ex → ∃ o', h'.get? b = some o'
  tups : ∀ b xs, H b = some (.tup xs) → H' b = some (.tup xs)
  frzs : ∀ b o u, H b = some (.frz o u) → H' b = some (.frz o u)
  tbls : ∀ b ps, H b = some (.tbl ps) → ∃ more, H' b = some (.tbl (ps ++ more))
section
variable {fs fs' ex ex' : List Addr} {H H1 H2 : Hp} {h h1 h2 h' : Heap} {a x e : Addr} {o : HO}
theorem Un.any (u : Un fs ex H H1 h h1) {b : Addr} {ob : Obj} (q : h.get? b = some ob) (n : H b = none) (hx : b ∉ ex) : ∃ sl, h1.get? b = some { ob with slots := sl } := by
  by_cases hb : b ∈ fs
  · exact u.slot b ob q n hb hx
  · exact ⟨ob.slots, u.keep b ob q n hb hx⟩
theorem Un.trans (a : Un fs ex H H1 h h1) (b : Un fs ex H1 H2 h1 h2) : Un fs ex H H2 h h2 where
  keep := fun c ob q n hc hx => b.keep c ob (a.keep c ob q n hc hx) (a.free c ob q n hx) hc hx
  slot := fun c ob q n hc hx => by
    obtain ⟨sl, e1⟩ := a.slot c ob q n hc hx
    obtain ⟨sl', e2⟩ := b.slot c _ e1 (a.free c ob q n hx) hc hx
    exact ⟨sl', e2⟩
  free := fun c ob q n hx => by
    obtain ⟨o', e1⟩ := a.there c ob q hx
    exact b.free c o' e1 (a.free c ob q n hx) hx
  there := fun c ob q hx => by
    obtain ⟨o', e1⟩ := a.there c ob q hx
    exact b.there c o' e1 hx
  tups := fun c xs q => b.tups c xs (a.tups c xs q)
  frzs := fun c ob xs q => b.frzs c ob xs (a.frzs c ob xs q)
  tbls := fun c ps q => by
    obtain ⟨m1, e1⟩ := a.tbls c ps q
    obtain ⟨m2, e2⟩ := b.tbls c _ e1
    exact ⟨m1 ++ m2, by rw [e2, Array.append_assoc]⟩
theorem Un.kept (k : ∀ b u, h.get? b = some u → h'.get? b = some u) : Un fs ex H H h h' :=
  ⟨fun b ob q _ _ _ => k b ob q, fun b ob q _ _ _ => ⟨ob.slots, k b ob q⟩, fun _ _ _ n _ => n, fun b ob q _ => ⟨ob, k b ob q⟩, fun _ _ q => q, fun _ _ _ q => q, fun _ ps q => ⟨#[], by rw [q]; simp⟩⟩
theorem Un.refl : Un fs ex H H h h := Un.kept fun _ _ q => q
theorem Un.laid (k : ∀ b u, h.get? b = some u → h'.get? b = some u) (hp : h.objs.size ≤ a) (hn : H a = none) : Un fs ex H (upd H a o) h h' where
  keep := fun b u q _ _ _ => k b u q
  slot := fun b u q _ _ _ => ⟨u.slots, k b u q⟩
  free := fun b u q n _ => by rw [upd_ne (Nat.ne_of_lt (Nat.lt_of_lt_of_le (Heap.lt_size q) hp))]; exact n
  there := fun b u q _ => ⟨u, k b u q⟩
  tups := fun b xs q => by rw [upd_ne (ne_of_none q hn)]; exact q
  frzs := fun b u xs q => by rw [upd_ne (ne_of_none q hn)]; exact q
  tbls := fun b ps q => ⟨#[], by rw [upd_ne (ne_of_none q hn), q]; simp⟩
theorem Un.write (mu : Mut (H x)) (he : e = x ∨ H e = some (.own x)) (k : ∀ b u, b ≠ e → h.get? b = some u → h'.get? b = some u) (heo : ∃ u, h'.get? e = some u) : Un fs ex H (upd H x o) h h' := by
  have hx : ∀ b, H b = none → b ≠ x := fun b n z => by subst z; rw [n] at mu; exact mu
  have hb : ∀ b, H b = none → b ≠ e := fun b n z => by
    subst z
    rcases he with r | r
    · exact hx b n r
    · rw [n] at r; cases r
  have hm : ∀ b u, H b = some u → ¬ Mut (some u) → b ≠ x := fun b u q nm z => by subst z; rw [q] at mu; exact nm mu
  refine ⟨fun b u q n _ _ => k b u (hb b n) q, fun b u q n _ _ => ⟨u.slots, k b u (hb b n) q⟩, fun b u q n _ => by rw [upd_ne (hx b n)]; exact n, fun b u q _ => ?_,
    fun b xs q => by rw [upd_ne (hm b _ q fun z => z)]; exact q, fun b u xs q => by rw [upd_ne (hm b _ q fun z => z)]; exact q, fun b ps q => ⟨#[], by rw [upd_ne (hm b _ q fun z => z), q]; simp⟩⟩
  by_cases hbe : b = e
  · subst hbe; exact heo
  · exact ⟨u, k b u hbe q⟩
theorem Un.mono (u : Un fs ex H H1 h h1) (hs : ∀ b ∈ fs, b ∈ fs') (hx : ∀ b ∈ ex, b ∈ ex') : Un fs' ex' H H1 h h1 :=
  ⟨fun b ob q n hb he => u.keep b ob q n (fun z => hb (hs b z)) fun z => he (hx b z), fun _ _ q n _ he => u.any q n fun z => he (hx _ z), fun b ob q n he => u.free b ob q n fun z => he (hx b z), fun b ob q he => u.there b ob q fun z => he (hx b z), u.tups, u.frzs, u.tbls⟩
end

/-! ### the heap without what is tracked -/
def trk (h : Heap) (H : Hp) : List Addr := (List.range h.objs.size).filter fun a => (H a).isSome
def hidT (h : Heap) (H : Hp) : Heap := PySem.W.hideAll h (trk h H)
theorem hidT_size (h : Heap) (H : Hp) : (hidT h H).objs.size = h.objs.size := PySem.W.hideAll_size _ _
theorem hidT_get {h : Heap} {H : Hp} {b : Addr} {o : Obj} (e : h.get? b = some o) (n : H b = none) : (hidT h H).get? b = some o :=
  PySem.W.hideAll_get _ e fun hm => by
    have q : (H b).isSome = true := (List.mem_filter.mp hm).2
    rw [n] at q; simp at q
theorem of_hidT {h : Heap} {H : Hp} {b : Addr} {o : Obj} (e : (hidT h H).get? b = some o) : h.get? b = some o ∧ H b = none := by
  have e' : h.get? b = some o := PySem.W.of_hideAll (trk h H) e
  refine ⟨e', ?_⟩
  cases q : H b with
  | none => rfl
  | some x =>
    have hm : b ∈ trk h H := List.mem_filter.mpr ⟨List.mem_range.mpr (Heap.lt_size e'), by simp [q]⟩
    have z : (hidT h H).get? b = none := PySem.W.hideAll_none (trk h H) hm
    rw [z] at e; cases e

/-! ### OpenK's ledger, filled with every new object but one -/
def allNews (g h : Heap) (L : Addr) : List (Addr × Obj) := (List.range h.objs.size).filterMap fun a => if a = L ∨ (g.get? a).isSome = true then none else (h.get? a).map fun o => (a, o)
def rest (g h : Heap) (L d : Addr) : List (Addr × Obj) := (allNews g h L).filter fun p => decide (p.1 ≠ d)
end L2

namespace L2
open PySem PySem.Spec PyProof.Rows

/-- the module's facts, over the base: the heap at the law's entry without what is tracked there -/
structure Mod (K : PySem.W.Frag) (mg : Str → Option Value) (base : Heap) : Prop where
  kin : K.In base
  glob : base.Ns mainGlobals mg
  blt : ∃ mb, base.Ns builtinsNs mb ∧ ∀ x : Str, x ≠ "__name__" → mb x = bootBuiltins x
  nolimit : base.NoLimit

/-- the context: a def's body (or a comprehension's block) running. base: fixed through the whole law; s₀, H₀: the entry; outer: the frames whose slots others may change (a def's callers); stack: all frames that run;
   ex: iterators that were made ahead of the entry and are walked here (a comprehension's); fn: the names whose cells were made at the entry (a def: all; a comprehension's block: its own); calm: not within an except suite; pn: pins that every state bears; xe: what is wanted of an exception that leaves the code -/
structure Cx where
  prog : Program
  w : World
  K : PySem.W.Frag
  mg : Str → Option Value
  base : Heap
  A : Around
  N : List Str
  s_0 : Shared
  H_0 : Hp
  env : Env
  outer : List Env
  stack : List Env
  ex : List Addr
  fn : Str → Bool
  calm : Bool
  pn : List (Addr × Obj)
  xe : Value → Shared → Prop
/-- the callers' frames -/
def frs (l : List Env) : List Addr := l.filterMap (·.frame)
abbrev Cx.fs (X : Cx) : List Addr := frs X.outer

def Vis (sc : Scope) (x : Str) : Prop := sc.names.lookup x = some .local ∨ sc.names.lookup x = some .cell ∨ sc.names.lookup x = some .free
def Loc (sc : Scope) (x : Str) : Prop := sc.names.lookup x = some .local ∨ sc.names.lookup x = some .cell
def Look (env : Env) (h : Heap) (m : Str → Option Value) (x : Str) (u : Value) : Prop :=
  (env.kindOf x = some .local ∧ m x = some u) ∨ ((env.kindOf x = some .cell ∨ env.kindOf x = some .free) ∧ ∃ c, env.cells.lookup x = some c ∧ h.IsCell c (some u))

structure Cx.Ok (X : Cx) : Prop where
  mod : Mod X.K X.mg X.base
  kind : X.env.scope.kind = .function
  glob : X.env.globals = mainGlobals
  blt : X.env.builtins = builtinsNs
  above : X.s_0.heap.objs.size ≤ X.env.locals
  inj : ∀ x y c, X.env.cells.lookup x = some c → X.env.cells.lookup y = some c → x = y
  has : ∀ x, (X.env.kindOf x = some .cell ∨ X.env.kindOf x = some .free) → ∃ c, X.env.cells.lookup x = some c
  cab : ∀ x c, X.fn x = true → X.env.cells.lookup x = some c → X.s_0.heap.objs.size ≤ c
  hd : X.calm = true → X.A.handled = none
  frames : X.A.frames = some X.stack
  stk : X.stack = X.outer ∨ (X.stack = X.env :: X.outer ∧ X.env.frame = some X.env.locals)
  exf : ∀ b ∈ X.ex, b ≠ X.env.locals ∧ ∀ x c, X.env.cells.lookup x = some c → c ≠ b
  bs : ∀ b o, X.base.get? b = some o → X.s_0.heap.get? b = some o ∧ X.H_0 b = none
  bsz : X.base.objs.size ≤ X.s_0.heap.objs.size
  noex : ∀ b o, X.base.get? b = some o → b ∉ X.ex
  exfs : ∀ b ∈ X.ex, b ∉ X.fs
  funs : X.s_0.heap.FunFrames X.base X.outer
  frf : ∀ b ∈ X.fs, X.H_0 b = none

structure Inv (X : Cx) (pins : List (Addr × Obj)) (σ : List (Option V)) (H : Hp) (s : Shared) : Prop where
  ok : X.Ok
  os : s.os = X.s_0.os
  bare : AllBare s.gens
  base : Un X.fs X.ex X.H_0 H X.s_0.heap s.heap
  loc : ∃ m, s.heap.Ns X.env.locals m ∧ ∀ (i : Nat) (x : Str) (v : V), X.N[i]? = some x → σ[i]? = some (some v) → Vis X.env.scope x → ∃ u, RelV v u ∧ Look X.env s.heap m x u
  cell : ∀ x c, X.env.cells.lookup x = some c → ∃ v, s.heap.IsCell c v
  free : H X.env.locals = none
  freeC : ∀ x c, X.env.cells.lookup x = some c → H c = none
  pin : ∀ p ∈ X.pn ++ pins, s.heap.get? p.1 = some p.2 ∧ H p.1 = none ∧ p.1 ≠ X.env.locals ∧ p.1 ∉ X.fs ∧ ∀ v, p.2.data ≠ .cell v
  hok : HOk X.prog X.w H s.heap
  len : σ.length = X.N.length

section
variable {X : Cx} {pins : List (Addr × Obj)} {σ : List (Option V)} {H H' : Hp} {s : Shared} {h' : Heap}

theorem Cx.Ok.nofr (ok : X.Ok) {b : Addr} {o : Obj} (e : X.base.get? b = some o) : b ∉ X.fs := fun hb => by
  have := (ok.funs.mem hb).1
  rw [e] at this; cases this
theorem Inv.bs (I : Inv X pins σ H s) : ∀ b o, X.base.get? b = some o → s.heap.get? b = some o ∧ H b = none := fun b o e =>
  ⟨I.base.keep b o (I.ok.bs b o e).1 (I.ok.bs b o e).2 (I.ok.nofr e) (I.ok.noex b o e), I.base.free b o (I.ok.bs b o e).1 (I.ok.bs b o e).2 (I.ok.noex b o e)⟩
theorem Inv.bk (I : Inv X pins σ H s) : ∀ b o, X.base.get? b = some o → s.heap.get? b = some o := fun b o e => (I.bs b o e).1
theorem Inv.mod (I : Inv X pins σ H s) : Mod X.K X.mg X.base := I.ok.mod
theorem Inv.kIn (I : Inv X pins σ H s) : X.K.In s.heap := I.ok.mod.kin.keeps I.bk
theorem Inv.nolimit (I : Inv X pins σ H s) : s.heap.NoLimit := I.ok.mod.nolimit.keeps I.bk
/-- the frame over the base: for OpenK's rules (K.In X.base is I.mod.kin) -/
theorem Inv.fr (I : Inv X pins σ H s) : ∃ m, Fr X.base X.env.locals s.heap m :=
  let ⟨m, hn, _⟩ := I.loc
  ⟨m, hn, I.bk, Nat.le_trans I.ok.bsz I.ok.above⟩
theorem Inv.lt (I : Inv X pins σ H s) : X.env.locals < s.heap.objs.size := let ⟨_, hn, _⟩ := I.loc; hn.lt
theorem Inv.sz (I : Inv X pins σ H s) : X.s_0.heap.objs.size ≤ s.heap.objs.size := Nat.le_trans I.ok.above (Nat.le_of_lt I.lt)
theorem Inv.nofs (I : Inv X pins σ H s) {a : Addr} (h : s.heap.objs.size ≤ a) : a ∉ X.fs := fun hb => by
  obtain ⟨_, o, ho, _⟩ := I.ok.funs.mem hb
  exact absurd (Nat.lt_of_lt_of_le (Heap.lt_size ho) (Nat.le_trans I.sz h)) (Nat.lt_irrefl _)
theorem Inv.cne (I : Inv X pins σ H s) : ∀ x c, X.env.cells.lookup x = some c → c ≠ X.env.locals := fun x c e z => by
  obtain ⟨v, o, ho, hd⟩ := I.cell x c e
  obtain ⟨m, ⟨o', es, ep, ho', hd', _⟩, _⟩ := I.loc
  rw [z, ho'] at ho; cases ho; rw [hd'] at hd; cases hd
theorem Inv.funs (I : Inv X pins σ H s) : s.heap.FunFrames X.base X.outer := by
  have all : ∀ (l : List Env), (∀ b ∈ frs l, b ∈ X.fs) → X.s_0.heap.FunFrames X.base l → s.heap.FunFrames X.base l := by
    intro l
    induction l with
    | nil => intro _ _; trivial
    | cons env r ih =>
      intro hs hl
      obtain ⟨hk, ⟨L, o, hf, hn, ho, hd⟩, hr⟩ := hl
      have hL : L ∈ X.fs := hs L (by unfold frs; rw [List.filterMap_cons, hf]; exact List.mem_cons_self)
      obtain ⟨sl, e⟩ := I.base.slot L o ho (I.ok.frf L hL) hL fun z => I.ok.exfs L z hL
      exact ⟨hk, ⟨L, _, hf, hn, e, hd⟩, ih (fun b hb => hs b (by unfold frs; rw [List.filterMap_cons, hf]; exact List.mem_cons_of_mem _ hb)) hr⟩
  exact all X.outer (fun _ hb => hb) I.ok.funs

/-- the frames that run, for a call -/
theorem Inv.stack (I : Inv X pins σ H s) : s.heap.FunFrames X.base X.stack := by
  rcases I.ok.stk with e | ⟨e, hf⟩
  · rw [e]; exact I.funs
  · rw [e]
    obtain ⟨m, hn, _⟩ := I.loc
    refine .cons (by rw [I.ok.kind]; decide) hf hn ?_ I.funs
    exact Heap.get?_none_of_le (Nat.le_trans I.ok.bsz I.ok.above)
theorem Inv.stkSub (I : Inv X pins σ H s) : ∀ b ∈ frs X.stack, b ∈ X.env.locals :: X.fs := fun b hb => by
  rcases I.ok.stk with e | ⟨e, hf⟩
  · rw [e] at hb; exact List.mem_cons_of_mem _ hb
  · rw [e] at hb
    unfold frs at hb
    rw [List.filterMap_cons, hf] at hb
    exact hb
theorem Inv.stkFree (I : Inv X pins σ H s) : ∀ b ∈ frs X.stack, H b = none := fun b hb => by
  rcases List.mem_cons.mp (I.stkSub b hb) with e | hb
  · rw [e]; exact I.free
  · obtain ⟨_, o, ho, _⟩ := I.ok.funs.mem hb
    exact I.base.free b o ho (I.ok.frf b hb) fun z => I.ok.exfs b z hb

/-- THE STEP: the untracked objects but the frame and the records at ch are kept (the callers' frames up to slots), the frame's map is kept, the new abstract heap is held -/
theorem Inv.step {g' : Array GenState} {t' : Nat} {d' : Drawn} {ch : List Addr} (I : Inv X pins σ H s)
    (hch : ∀ b ∈ ch, (b ∈ X.ex ∨ X.s_0.heap.objs.size ≤ b) ∧ b ≠ X.env.locals ∧ (∀ x c, X.env.cells.lookup x = some c → c ≠ b) ∧ ∀ p ∈ X.pn ++ pins, p.1 ≠ b)
    (keep : ∀ b o, b ≠ X.env.locals → b ∉ X.fs → b ∉ ch → s.heap.get? b = some o → H b = none → h'.get? b = some o)
    (slot : ∀ b o, b ≠ X.env.locals → b ∈ X.fs → b ∉ ch → s.heap.get? b = some o → H b = none → ∃ sl, h'.get? b = some { o with slots := sl }) (free : ∀ b o, b ∉ ch → s.heap.get? b = some o → H b = none → H' b = none)
    (there : ∀ b o, b ∉ ch → s.heap.get? b = some o → ∃ o', h'.get? b = some o')
    (tups : ∀ b xs, H b = some (.tup xs) → H' b = some (.tup xs)) (frzs : ∀ b o u, H b = some (.frz o u) → H' b = some (.frz o u)) (tbls : ∀ b ps, H b = some (.tbl ps) → ∃ more, H' b = some (.tbl (ps ++ more)))
    (ns : ∀ m, s.heap.Ns X.env.locals m → h'.Ns X.env.locals m) (hok : HOk X.prog X.w H' h') (hg : AllBare g') :
    Inv X pins σ H' { s with heap := h', gens := g', drawn := d', toks := t' } := by
  have neL : ∀ b o, X.s_0.heap.get? b = some o → b ≠ X.env.locals := fun b o e => Nat.ne_of_lt (Nat.lt_of_lt_of_le (Heap.lt_size e) I.ok.above)
  have neC : ∀ b o, X.s_0.heap.get? b = some o → b ∉ X.ex → b ∉ ch := fun b o e hx hb => by
    rcases (hch b hb).1 with z | z
    · exact hx z
    · exact absurd (Nat.lt_of_lt_of_le (Heap.lt_size e) z) (Nat.lt_irrefl _)
  have cellK : ∀ x c, X.env.cells.lookup x = some c → ∀ v, s.heap.IsCell c v → h'.IsCell c v := fun x c e v ⟨o, ho, hd⟩ => by
    have nch : c ∉ ch := fun z => (hch c z).2.2.1 x c e rfl
    by_cases hc : c ∈ X.fs
    · obtain ⟨sl, q⟩ := slot c o (I.cne x c e) hc nch ho (I.freeC x c e)
      exact ⟨_, q, hd⟩
    · exact ⟨o, keep c o (I.cne x c e) hc nch ho (I.freeC x c e), hd⟩
  refine ⟨I.ok, I.os, hg, ⟨fun b o e n hb hx => ?_, fun b o e n hb hx => ?_, fun b o e n hx => ?_, fun b o e hx => ?_, fun b xs e => tups b xs (I.base.tups b xs e), fun b o xs e => frzs b o xs (I.base.frzs b o xs e), fun b ps e => ?_⟩, ?_, fun x c e => ?_, ?_, fun x c e => ?_, fun p hp => ?_, hok, I.len⟩
  · exact keep b o (neL b o e) hb (neC b o e hx) (I.base.keep b o e n hb hx) (I.base.free b o e n hx)
  · obtain ⟨sl, e1⟩ := I.base.slot b o e n hb hx
    obtain ⟨sl', e2⟩ := slot b _ (neL b o e) hb (neC b o e hx) e1 (I.base.free b o e n hx)
    exact ⟨sl', e2⟩
  · obtain ⟨o', e1⟩ := I.base.there b o e hx
    exact free b o' (neC b o e hx) e1 (I.base.free b o e n hx)
  · obtain ⟨o', e1⟩ := I.base.there b o e hx
    exact there b o' (neC b o e hx) e1
  · obtain ⟨m1, e1⟩ := I.base.tbls b ps e
    obtain ⟨m2, e2⟩ := tbls b _ e1
    exact ⟨m1 ++ m2, by rw [e2, Array.append_assoc]⟩
  · obtain ⟨m, hn, hl⟩ := I.loc
    refine ⟨m, ns m hn, fun i x v e1 e2 e3 => ?_⟩
    obtain ⟨u, r, l⟩ := hl i x v e1 e2 e3
    refine ⟨u, r, ?_⟩
    rcases l with l | ⟨k, c, e, z⟩
    · exact .inl l
    · exact .inr ⟨k, c, e, cellK x c e _ z⟩
  · obtain ⟨v, z⟩ := I.cell x c e
    exact ⟨v, cellK x c e v z⟩
  · obtain ⟨m, ⟨o, _, _, ho, _⟩, _⟩ := I.loc
    exact free _ o (fun z => (hch _ z).2.1 rfl) ho I.free
  · obtain ⟨v, o, ho, hd⟩ := I.cell x c e
    exact free c o (fun z => (hch c z).2.2.1 x c e rfl) ho (I.freeC x c e)
  · obtain ⟨e, n, ne, nf, d⟩ := I.pin p hp
    have nch : p.1 ∉ ch := fun z => (hch p.1 z).2.2.2 p hp rfl
    exact ⟨keep p.1 p.2 ne nf nch e n, free p.1 p.2 nch e n, ne, nf, d⟩
/-- .. where the frame's own object is kept too -/
theorem Inv.un {t' : Nat} (I : Inv X pins σ H s) (u : Un X.fs [] H H' s.heap h') (hok : HOk X.prog X.w H' h') : Inv X pins σ H' { s with heap := h', toks := t' } := by
  obtain ⟨m, ⟨o, es, ep, ho, r⟩, _⟩ := id I.loc
  obtain ⟨sl, hL⟩ := u.any ho I.free (by simp)
  exact I.step (g' := s.gens) (d' := s.drawn) (ch := []) (fun _ z => nomatch z) (fun b o _ hb _ e n => u.keep b o e n hb (by simp)) (fun b o _ hb _ e n => u.slot b o e n hb (by simp)) (fun b o _ e n => u.free b o e n (by simp)) (fun b o _ e => u.there b o e (by simp)) u.tups u.frzs u.tbls (fun m' hm => by
    obtain ⟨o', es', ep', ho', r'⟩ := hm
    rw [ho] at ho'; cases ho'
    exact ⟨_, es', ep', hL, r'⟩) hok I.bare
/-- behind a call (or a comprehension's block): the slots of this frame may have changed too, the records at ch may have turned -/
theorem Inv.call {g' : Array GenState} {t' : Nat} {d' : Drawn} {ch : List Addr} (I : Inv X pins σ H s) (u : Un (frs X.stack) ch H H' s.heap h') (hok : HOk X.prog X.w H' h') (hg : AllBare g')
    (hch : ∀ b ∈ ch, (b ∈ X.ex ∨ X.s_0.heap.objs.size ≤ b) ∧ b ≠ X.env.locals ∧ (∀ x c, X.env.cells.lookup x = some c → c ≠ b) ∧ ∀ p ∈ X.pn ++ pins, p.1 ≠ b) :
    Inv X pins σ H' { s with heap := h', gens := g', drawn := d', toks := t' } := by
  obtain ⟨m, ⟨o, es, ep, ho, r⟩, _⟩ := id I.loc
  obtain ⟨sl, hL⟩ := u.any ho I.free fun z => (hch _ z).2.1 rfl
  exact I.step (ch := ch) hch (fun b o hL hb hc e n => u.keep b o e n (fun z => (List.mem_cons.mp (I.stkSub b z)).elim hL hb) hc) (fun b o _ _ hc e n => u.any e n hc) (fun b o hc e n => u.free b o e n hc) (fun b o hc e => u.there b o e hc) u.tups u.frzs u.tbls (fun m' hm => by
    obtain ⟨o', es', ep', ho', r'⟩ := hm
    rw [ho] at ho'; cases ho'
    exact ⟨_, es', ep', hL, r'⟩) hok hg
/-- an untracked record of ours (an iterator) has turned -/
theorem Inv.turned {t' : Nat} {it : Addr} (I : Inv X pins σ H s) (k : ∀ b o, b ≠ it → s.heap.get? b = some o → h'.get? b = some o) (hn : H it = none) (hL : it ≠ X.env.locals)
    (h1 : it ∈ X.ex ∨ X.s_0.heap.objs.size ≤ it) (h2 : ∀ x c, X.env.cells.lookup x = some c → c ≠ it) (h3 : ∀ p ∈ X.pn ++ pins, p.1 ≠ it) : Inv X pins σ H { s with heap := h', toks := t' } := by
  have nit : ∀ b u, H b = some u → b ≠ it := fun b u e z => by rw [z, hn] at e; cases e
  refine I.step (g' := s.gens) (d' := s.drawn) (ch := [it]) (fun b hb => ?_) (fun b o _ _ hc e _ => k b o (fun z => hc (by simp [z])) e) (fun b o _ _ hc e _ => ⟨o.slots, k b o (fun z => hc (by simp [z])) e⟩) (fun _ _ _ _ n => n)
    (fun b o hc e => ⟨o, k b o (fun z => hc (by simp [z])) e⟩) (fun _ _ e => e) (fun _ _ _ e => e) (fun b ps e => ⟨#[], by rw [e]; simp⟩) (fun m hm => ?_) (fun b u e => ?_) I.bare
  · have e : b = it := by simpa using hb
    subst e
    exact ⟨h1, hL, h2, h3⟩
  · obtain ⟨o, es, ep, ho, r⟩ := hm
    exact ⟨o, es, ep, k _ o (Ne.symm hL) ho, r⟩
  · refine (I.hok b u e).stay (fun c v hc q => k c v ?_ q) (fun _ q => q) fun _ _ q => q
    rcases hc with z | z
    · rw [z]; exact nit b u e
    · exact nit c _ z
theorem Inv.tok (I : Inv X pins σ H s) (t : Nat) : Inv X pins σ H { s with toks := t } := I.un (h' := s.heap) (t' := t) Un.refl I.hok
/-- all objects kept -/
theorem Inv.kept {t' : Nat} (I : Inv X pins σ H s) (k : ∀ b u, s.heap.get? b = some u → h'.get? b = some u) : Inv X pins σ H { s with heap := h', toks := t' } := I.un (Un.kept k) (I.hok.kept k)
/-- a new object laid and tracked -/
theorem Inv.laid {a : Addr} {o : HO} {t' : Nat} (I : Inv X pins σ H s) (k : ∀ b u, s.heap.get? b = some u → h'.get? b = some u) (hp : s.heap.objs.size ≤ a) (new : ObjOk X.prog X.w (upd H a o) h' a o) :
    Inv X pins σ (upd H a o) { s with heap := h', toks := t' } := I.un (Un.laid k hp (I.hok.fresh hp)) (I.hok.laid k hp new)
/-- an object written -/
theorem Inv.write {x e : Addr} {o : HO} {t' : Nat} (I : Inv X pins σ H s) (mu : Mut (H x)) (he : e = x ∨ H e = some (.own x)) (k : ∀ b u, b ≠ e → s.heap.get? b = some u → h'.get? b = some u) (heo : ∃ u, h'.get? e = some u)
    (new : ObjOk X.prog X.w (upd H x o) h' x o) : Inv X pins σ (upd H x o) { s with heap := h', toks := t' } := I.un (Un.write mu he k heo) (I.hok.write mu he k heo new)
/-- forgetting slots, pins -/
theorem Inv.weak {σ' : List (Option V)} (I : Inv X pins σ H s) (hl : σ'.length = σ.length) (w : ∀ (i : Nat) v, σ'[i]? = some (some v) → σ[i]? = some (some v)) : Inv X pins σ' H s :=
  ⟨I.ok, I.os, I.bare, I.base, let ⟨m, hn, hl'⟩ := I.loc; ⟨m, hn, fun i x v e1 e2 e3 => hl' i x v e1 (w i v e2) e3⟩, I.cell, I.free, I.freeC, I.pin, I.hok, hl.trans I.len⟩
theorem Inv.pins_of {pins' : List (Addr × Obj)} (I : Inv X pins σ H s) (h : ∀ p ∈ pins', s.heap.get? p.1 = some p.2 ∧ H p.1 = none ∧ p.1 ≠ X.env.locals ∧ p.1 ∉ X.fs ∧ ∀ v, p.2.data ≠ .cell v) : Inv X pins' σ H s :=
  ⟨I.ok, I.os, I.bare, I.base, I.loc, I.cell, I.free, I.freeC, fun p hp => (List.mem_append.mp hp).elim (fun z => I.pin p (List.mem_append_left _ z)) (h p), I.hok, I.len⟩

theorem nodup_ix {N : List Str} (hN : N.Nodup) {i j : Nat} {x : Str} (a : N[i]? = some x) (b : N[j]? = some x) : i = j := by
  obtain ⟨h1, e1⟩ := List.getElem?_eq_some_iff.mp a
  obtain ⟨h2, e2⟩ := List.getElem?_eq_some_iff.mp b
  exact (List.getElem_inj hN).mp (e1.trans e2.symm)

/-- a name is stored; what changed -/
theorem store_ok2 {M : Model} {A : Around} {E : Value → Shared → Prop} {i : Nat} {x : Str} {v : V} {u : Value} {Q : Unit → Shared → Prop} (I : Inv X pins σ H s) (hN : X.N.Nodup) (hi : X.N[i]? = some x) (hx : Loc X.env.scope x) (r : RelV v u)
    (h : ∀ s', Inv X pins (σ.set i (some v)) H s' → (∃ a, Heap.SameBut a s.heap s'.heap ∧ (a = X.env.locals ∨ X.env.cells.lookup x = some a)) → Q () s') (hf : X.fn x = true ∨ X.env.scope.names.lookup x = some .local := by first | exact .inl rfl | exact .inr rfl | assumption) : wpAny M A (storeName X.env x u) Q E s := by
  obtain ⟨m, hn, hl⟩ := id I.loc
  have hcls : (X.env.scope.kind == .class || (X.env.scope.kind == .module && X.env.locals != X.env.globals)) = false := by rw [I.ok.kind]; rfl
  have hiσ : i < σ.length := by rw [I.len]; exact (List.getElem?_eq_some_iff.mp hi).1
  have cne := I.cne
  have tracked : ∀ {a : Addr} {h' : Heap}, (∃ o, s.heap.get? a = some o ∧ H a = none) → Heap.SameBut a s.heap h' → HOk X.prog X.w H h' := fun {a h'} ha hs b ob e => by
    obtain ⟨_, _, hfree⟩ := ha
    refine (I.hok b ob e).stay (fun c w' hc q => (hs.2 c ?_).trans q) (fun _ q => q) fun _ _ q => q
    rintro rfl
    rcases hc with rfl | hc
    · rw [hfree] at e; cases e
    · rw [hfree] at hc; cases hc
  rcases hx with hk | hk
  · refine wpAny_storeName_local hk hn (fun h' hn' hs => ?_) hcls
    obtain ⟨oL, _, _, hoL, _⟩ := id hn
    refine h _ ⟨I.ok, I.os, I.bare, ⟨fun b o e n hb hx => ?_, fun b o e n hb hx => ?_, I.base.free, fun b o e hx => ?_, I.base.tups, I.base.frzs, I.base.tbls⟩, ⟨_, hn', fun j y v' e1 e2 e3 => ?_⟩, fun y c e => ?_, I.free, I.freeC, fun p hp => ?_, tracked ⟨oL, hoL, I.free⟩ hs, by simpa using I.len⟩ ⟨_, hs, .inl rfl⟩
    · exact (hs.2 b (Nat.ne_of_lt (Nat.lt_of_lt_of_le (Heap.lt_size e) I.ok.above))).trans (I.base.keep b o e n hb hx)
    · obtain ⟨sl, e1⟩ := I.base.slot b o e n hb hx
      exact ⟨sl, (hs.2 b (Nat.ne_of_lt (Nat.lt_of_lt_of_le (Heap.lt_size e) I.ok.above))).trans e1⟩
    · obtain ⟨o', e1⟩ := I.base.there b o e hx
      exact ⟨o', (hs.2 b (Nat.ne_of_lt (Nat.lt_of_lt_of_le (Heap.lt_size e) I.ok.above))).trans e1⟩
    · by_cases hj : j = i
      · subst hj
        rw [hi] at e1; cases e1
        rw [List.getElem?_set_self hiσ] at e2
        cases e2
        exact ⟨u, r, .inl ⟨hk, by simp⟩⟩
      · rw [List.getElem?_set_ne (Ne.symm hj)] at e2
        obtain ⟨u', r', q⟩ := hl j y v' e1 e2 e3
        refine ⟨u', r', ?_⟩
        rcases q with ⟨k, e⟩ | ⟨k, c, e, z⟩
        · refine .inl ⟨k, ?_⟩
          have : y ≠ x := fun e => hj (nodup_ix hN e1 (e ▸ hi))
          simp [this, e]
        · exact .inr ⟨k, c, e, z.sameBut hs (cne y c e)⟩
    · obtain ⟨w', z⟩ := I.cell y c e
      exact ⟨w', z.sameBut hs (cne y c e)⟩
    · obtain ⟨e, n, ne, nf, d⟩ := I.pin p hp
      exact ⟨(hs.2 p.1 ne).trans e, n, ne, nf, d⟩
  · have hfn : X.fn x = true := by
      rcases hf with z | z
      · exact z
      · rw [z] at hk; cases hk
    obtain ⟨c, hc⟩ := I.ok.has x (.inl hk)
    obtain ⟨w', z⟩ := I.cell x c hc
    refine wpAny_storeName_cell I.ok.kind hk hc z (fun h' hc' hs => ?_)
    obtain ⟨oc, hoc, hocd⟩ := id z
    refine h { s with heap := h' } ⟨I.ok, I.os, I.bare, ⟨fun b o e n hb hx => ?_, fun b o e n hb hx => ?_, I.base.free, fun b o e hx => ?_, I.base.tups, I.base.frzs, I.base.tbls⟩, ⟨m, hn.sameBut hs (Ne.symm (cne x c hc)), fun j y v' e1 e2 e3 => ?_⟩, fun y c' e => ?_, I.free, I.freeC, fun p hp => ?_, tracked ⟨oc, hoc, I.freeC x c hc⟩ hs, by simpa using I.len⟩ ⟨c, hs, .inr hc⟩
    · exact (hs.2 b (Nat.ne_of_lt (Nat.lt_of_lt_of_le (Heap.lt_size e) (I.ok.cab x c hfn hc)))).trans (I.base.keep b o e n hb hx)
    · obtain ⟨sl, e1⟩ := I.base.slot b o e n hb hx
      exact ⟨sl, (hs.2 b (Nat.ne_of_lt (Nat.lt_of_lt_of_le (Heap.lt_size e) (I.ok.cab x c hfn hc)))).trans e1⟩
    · obtain ⟨o', e1⟩ := I.base.there b o e hx
      exact ⟨o', (hs.2 b (Nat.ne_of_lt (Nat.lt_of_lt_of_le (Heap.lt_size e) (I.ok.cab x c hfn hc)))).trans e1⟩
    · by_cases hj : j = i
      · subst hj
        rw [hi] at e1; cases e1
        rw [List.getElem?_set_self hiσ] at e2
        cases e2
        exact ⟨u, r, .inr ⟨.inl hk, c, hc, hc'⟩⟩
      · rw [List.getElem?_set_ne (Ne.symm hj)] at e2
        obtain ⟨u', r', q⟩ := hl j y v' e1 e2 e3
        refine ⟨u', r', ?_⟩
        rcases q with q | ⟨k, c', e, z'⟩
        · exact .inl q
        · refine .inr ⟨k, c', e, z'.sameBut hs ?_⟩
          rintro rfl
          exact hj (nodup_ix hN e1 (I.ok.inj _ _ _ e hc ▸ hi))
    · by_cases hcc : c' = c
      · subst hcc; exact ⟨_, hc'⟩
      · obtain ⟨w2, z2⟩ := I.cell y c' e
        exact ⟨w2, z2.sameBut hs hcc⟩
    · obtain ⟨e, n, ne, nf, d⟩ := I.pin p hp
      refine ⟨(hs.2 p.1 ?_).trans e, n, ne, nf, d⟩
      intro q
      rw [q, hoc] at e
      have q' : oc = p.2 := Option.some.inj e
      exact d w' (by rw [← q']; exact hocd)
theorem store_ok {M : Model} {A : Around} {E : Value → Shared → Prop} {i : Nat} {x : Str} {v : V} {u : Value} {Q : Unit → Shared → Prop} (I : Inv X pins σ H s) (hN : X.N.Nodup) (hi : X.N[i]? = some x) (hx : Loc X.env.scope x) (r : RelV v u)
    (h : ∀ s', Inv X pins (σ.set i (some v)) H s' → Q () s') (hf : X.fn x = true ∨ X.env.scope.names.lookup x = some .local := by first | exact .inl rfl | exact .inr rfl | assumption) : wpAny M A (storeName X.env x u) Q E s :=
  store_ok2 I hN hi hx r (fun s' I' _ => h s' I') hf
/-- behind a call or a block, the state as it is -/
theorem Inv.call' {s' : Shared} {ch : List Addr} (I : Inv X pins σ H s) (ho : s'.os = s.os) (u : Un (frs X.stack) ch H H' s.heap s'.heap) (hok : HOk X.prog X.w H' s'.heap) (hg : AllBare s'.gens)
    (hch : ∀ b ∈ ch, (b ∈ X.ex ∨ X.s_0.heap.objs.size ≤ b) ∧ b ≠ X.env.locals ∧ (∀ x c, X.env.cells.lookup x = some c → c ≠ b) ∧ ∀ p ∈ X.pn ++ pins, p.1 ≠ b) : Inv X pins σ H' s' := by
  obtain ⟨h', g', d', t', o'⟩ := s'
  have e : o' = s.os := ho
  subst e
  exact I.call (g' := g') (t' := t') (d' := d') u hok hg hch
end

/-! ### the judgements -/
/-- an exception: its class, its own dict's address (where it has one), the abstract heap behind it -/
abbrev XK := Value → Option Addr → Hp → Prop
abbrev St := List (Option V)
abbrev VK := V → Hp → Prop
/-- an expression's reading; a test's; an argument list's -/
abbrev TE := St → Hp → VK → Prop
abbrev TT := St → Hp → (Bool → Hp → Prop) → Prop
abbrev TA := St → Hp → (List V → Hp → Prop) → Prop
/-- what is wanted behind a statement -/
structure Ends where
  nx : St → Hp → Prop
  rt : VK
  bk : St → Hp → Prop := fun _ _ => False
  ct : St → Hp → Prop := fun _ _ => False
abbrev TS := Ends → St → Hp → Prop

def EP (X : Cx) (pins : List (Addr × Obj)) (σ : St) (Q : VK) (u : Value) (s' : Shared) : Prop := ∃ v H', Inv X pins σ H' s' ∧ RelV v u ∧ Q v H'
def TP (X : Cx) (pins : List (Addr × Obj)) (σ : St) (Q : Bool → Hp → Prop) (b : Bool) (s' : Shared) : Prop := ∃ H', Inv X pins σ H' s' ∧ Q b H'
def AP (X : Cx) (pins : List (Addr × Obj)) (σ : St) (Q : List V → Hp → Prop) (us : List Value) (s' : Shared) : Prop := ∃ vs H', Inv X pins σ H' s' ∧ Vals vs us ∧ Q vs H'
def SP (X : Cx) (pins : List (Addr × Obj)) (D : Ends) (f : Flow) (s' : Shared) : Prop :=
  match f with
  | .next => ∃ σ' H', Inv X pins σ' H' s' ∧ D.nx σ' H'
  | .brk => ∃ σ' H', Inv X pins σ' H' s' ∧ D.bk σ' H'
  | .cont => ∃ σ' H', Inv X pins σ' H' s' ∧ D.ct σ' H'
  | .ret u => ∃ v σ' H', Inv X pins σ' H' s' ∧ RelV v u ∧ D.rt v H'

def PE (X : Cx) (e : Expr) (t : TE) : Prop :=
  ∀ (pins : List (Addr × Obj)) (s : Shared) (σ : St) (H : Hp) (Q : VK), Inv X pins σ H s → t σ H Q → wpAny (model X.prog X.w) X.A (eval e X.env) (EP X pins σ Q) X.xe s
def PT (X : Cx) (e : Expr) (t : TT) : Prop :=
  ∀ (pins : List (Addr × Obj)) (s : Shared) (σ : St) (H : Hp) (Q : Bool → Hp → Prop), Inv X pins σ H s → t σ H Q → wpAny (model X.prog X.w) X.A (isTrue e X.env (eval e X.env)) (TP X pins σ Q) X.xe s
/-- a test whatever its 'whole' is (and, or) -/
def PW (X : Cx) (e : Expr) (t : TT) : Prop :=
  ∀ (whole : Sem Value) (pins : List (Addr × Obj)) (s : Shared) (σ : St) (H : Hp) (Q : Bool → Hp → Prop), Inv X pins σ H s → t σ H Q → wpAny (model X.prog X.w) X.A (isTrue e X.env whole) (TP X pins σ Q) X.xe s
theorem PW.pt {X : Cx} {e : Expr} {t : TT} (h : PW X e t) : PT X e t := h _
/-- an argument list (no star), from the left -/
def PA (X : Cx) (es : List Expr) (t : TA) : Prop :=
  ∀ (pos : Pos) (pins : List (Addr × Obj)) (s : Shared) (σ : St) (H : Hp) (Q : List V → Hp → Prop), Inv X pins σ H s → t σ H Q → wpAny (model X.prog X.w) X.A (spliced (backTo pos (starEach es X.env))) (AP X pins σ Q) X.xe s
def PS (X : Cx) (st : Stmt) (t : TS) : Prop :=
  ∀ (pins : List (Addr × Obj)) (s : Shared) (σ : St) (H : Hp) (D : Ends), Inv X pins σ H s → t D σ H → wpAny (model X.prog X.w) X.A (exec st X.env) (SP X pins D) X.xe s
def PSs (X : Cx) (st : List Stmt) (t : TS) : Prop :=
  ∀ (pins : List (Addr × Obj)) (s : Shared) (σ : St) (H : Hp) (D : Ends), Inv X pins σ H s → t D σ H → wpAny (model X.prog X.w) X.A (execs st X.env) (SP X pins D) X.xe s
/-- weaken the end -/
theorem thn {α : Type} {t : Sem α} {Q Q' : α → Shared → Prop} {M : Model} {A : Around} {E : Value → Shared → Prop} {s : Shared} (h : wpAny M A t Q E s) (hQ : ∀ a s, Q a s → Q' a s) : wpAny M A t Q' E s := wpAny_mono h hQ fun _ _ x => x
end L2

namespace L2
open PySem PySem.Spec PyProof.Rows
section
variable {X : Cx}

/-! ### names and constants -/
def tVar (i : Nat) : TE := fun σ H Q => ∃ v, σ[i]? = some (some v) ∧ Q v H
def tC (v : V) : TE := fun _ H Q => Q v H
theorem pe_var {i : Nat} {x : Str} {pos : Pos} (hN : X.N[i]? = some x) (hv : Vis X.env.scope x) (hd : (x == ("__debug__" : Str)) = false := by decide) (hcd : (x == ("__classdict__" : Str)) = false := by decide) : PE X (.Name x pos) (tVar i) := by
  intro pins s σ H Q I h
  obtain ⟨v, e, h⟩ := h
  obtain ⟨m, hn, hl⟩ := I.loc
  obtain ⟨u, r, l⟩ := hl i x v hN e hv
  have fin : EP X pins σ Q u s := ⟨v, H, I, r, h⟩
  rcases l with ⟨hk, hm⟩ | ⟨hk, c, hc, hcell⟩
  · exact wpAny_Name (wpAny_loadName_local I.ok.kind hk hn hm fin) hd
  · rcases hk with hk | hk
    · exact wpAny_Name (wpAny_loadName_cell I.ok.kind hk hc hcell fin) hd
    · exact wpAny_Name (wpAny_loadName_free I.ok.kind hk hc hcell fin hcd) hd
theorem pe_int {i j pos} : PE X (.Constant (.int i) j pos) (tC (.int i)) := fun _ _ _ H _ I h => wpAny_Constant_int ⟨.int i, H, I.tok _, ⟨_, rfl⟩, h⟩
theorem pe_bl {b j pos} : PE X (.Constant (.bool b) j pos) (tC (.bl b)) := fun _ _ _ H _ I h => Constant_bool ⟨.bl b, H, I, rfl, h⟩
theorem pe_non {j pos} : PE X (.Constant .none j pos) (tC .non) := fun _ _ _ H _ I h => Constant_none ⟨.non, H, I, rfl, h⟩
/-- a global name of the def -/
def Gl (X : Cx) (x : Str) : Prop := X.env.kindOf x = some .globalImplicit
theorem ld_glob {E : Value → Shared → Prop} {pins : List (Addr × Obj)} {s : Shared} {σ : St} {H : Hp} {x : Str} {u : Value} {pos : Pos} {Q : Value → Shared → Prop} (I : Inv X pins σ H s) (hg : Gl X x) (hm : X.mg x = some u) (h : Q u s)
    (hd : (x == ("__debug__" : Str)) = false := by decide) : wpAny (model X.prog X.w) X.A (eval (.Name x pos) X.env) Q E s :=
  Calls.Name_function_global I.ok.kind hg (Calls.loadGlobal_global (by rw [I.ok.glob]; exact I.mod.glob.keeps I.bk) hm h) hd
theorem ld_blt {E : Value → Shared → Prop} {pins : List (Addr × Obj)} {s : Shared} {σ : St} {H : Hp} {x : Str} {u : Value} {pos : Pos} {Q : Value → Shared → Prop} (I : Inv X pins σ H s) (hg : Gl X x) (hm : X.mg x = none) (hv : bootBuiltins x = some u) (h : Q u s)
    (hn : x ≠ "__name__" := by decide) (hd : (x == ("__debug__" : Str)) = false := by decide) : wpAny (model X.prog X.w) X.A (eval (.Name x pos) X.env) Q E s := by
  obtain ⟨mb, h1, h2⟩ := I.mod.blt
  exact Calls.Name_function_global I.ok.kind hg (Calls.loadGlobal_builtin (by rw [I.ok.glob]; exact I.mod.glob.keeps I.bk) hm (by rw [I.ok.blt]; exact h1.keeps I.bk) ((h2 x hn).trans hv) h) hd
/-- a module's constant, a class, a function, as a value -/
theorem pe_glob {x : Str} {v : V} {u : Value} {pos : Pos} (hg : Gl X x) (hm : X.mg x = some u) (r : RelV v u) (hd : (x == ("__debug__" : Str)) = false := by decide) : PE X (.Name x pos) (tC v) :=
  fun _ _ _ H _ I h => ld_glob I hg hm ⟨v, H, I, r, h⟩ hd
/-! ### arithmetic -/
variable {a b : Expr} {ta tb : TE} {pos : Pos}
/-! ### comparisons -/
/-- a comparison as a value, as a test -/
def tB (t : TE) : TT := fun σ H Q => t σ H fun x H1 => ∃ c, x = .bl c ∧ Q c H1
/-- an expression whose value is a bool, as a test -/
theorem pt_val {e : Expr} {t : TE} (h : PE X e t) (he : ∀ whole, isTrue e X.env whole = (do let v ← whole; standAt e.pos; holding [v] (truthy v)) := by intro _; rfl) : PT X e (tB t) := by
  intro pins s σ H Q I hw
  refine isTrue_plain (thn (h pins s σ H _ I hw) fun v s1 ⟨x, H1, I1, r1, q1⟩ => ?_) (he _)
  obtain ⟨d, rfl, q⟩ := q1
  cases r1
  exact wpAny_truthy_bool ⟨H1, I1, q⟩

/-! ### and, or, not -/
variable {tA tB' : TT} {rest : List Expr}
def tAnd (t u : TT) : TT := fun σ H Q => t σ H fun c H1 => if c = true then u σ H1 Q else Q false H1
def tOr (t u : TT) : TT := fun σ H Q => t σ H fun c H1 => if c = true then Q true H1 else u σ H1 Q
def tNot (t : TT) : TT := fun σ H Q => t σ H fun c H1 => Q (!c) H1
theorem pw_and1 (ha : PT X a tA) : PW X (.BoolOp .And [a] pos) tA := by
  intro wh pins s σ H Q I h
  refine isTrue_and (thn (ha pins s σ H Q I h) fun c s1 e => ?_)
  cases c with
  | true => exact isTrue_and_nil e
  | false => exact e
theorem pw_or1 (ha : PT X a tA) : PW X (.BoolOp .Or [a] pos) tA := by
  intro wh pins s σ H Q I h
  refine isTrue_or (thn (ha pins s σ H Q I h) fun c s1 e => ?_)
  cases c with
  | false => exact isTrue_or_nil e
  | true => exact e
theorem pw_and (ha : PT X a tA) (hb : PW X (.BoolOp .And (b :: rest) pos) tB') : PW X (.BoolOp .And (a :: b :: rest) pos) (tAnd tA tB') := by
  intro wh pins s σ H Q I h
  refine isTrue_and (thn (ha pins s σ H _ I h) fun c s1 ⟨H1, I1, q1⟩ => ?_)
  cases c with
  | true => exact hb wh pins s1 σ H1 Q I1 q1
  | false => exact ⟨H1, I1, q1⟩
theorem pw_or (ha : PT X a tA) (hb : PW X (.BoolOp .Or (b :: rest) pos) tB') : PW X (.BoolOp .Or (a :: b :: rest) pos) (tOr tA tB') := by
  intro wh pins s σ H Q I h
  refine isTrue_or (thn (ha pins s σ H _ I h) fun c s1 ⟨H1, I1, q1⟩ => ?_)
  cases c with
  | true => exact ⟨H1, I1, q1⟩
  | false => exact hb wh pins s1 σ H1 Q I1 q1
theorem pt_not (ha : PT X a tA) : PT X (.UnaryOp .Not a pos) (tNot tA) := by
  intro pins s σ H Q I h
  exact isTrue_not (ha pins s σ H (fun c H1 => Q (!c) H1) I h)
/-- .. as values (bools) -/
def tAndV (ta tb : TE) : TE := fun σ H Q => ta σ H fun x H1 => ∃ c, x = .bl c ∧ if c = true then tb σ H1 Q else Q (.bl false) H1
/-- a if t else b -/
def tIf (t : TT) (ta tb : TE) : TE := fun σ H Q => t σ H fun c H1 => if c = true then ta σ H1 Q else tb σ H1 Q
theorem pe_ifExp {c : Expr} (hc : PT X c tA) (ha : PE X a ta) (hb : PE X b tb) : PE X (.IfExp c a b pos) (tIf tA ta tb) := by
  intro pins s σ H Q I h
  refine wpAny_IfExp (thn (hc pins s σ H _ I h) fun d s1 ⟨H1, I1, q1⟩ => ?_)
  cases d with
  | true => exact ha pins s1 σ H1 Q I1 q1
  | false => exact hb pins s1 σ H1 Q I1 q1
end
end L2

namespace L2
open PySem PySem.Spec PyProof.Rows

/-! ### a list, a tuple that is read: tracked, frozen, or an object of the module -/
def SqL (K : PySem.W.Frag) (H : Hp) (a : Addr) (xs : List V) : Prop :=
  Rd H a (.lst xs) ∨
    ∃ (o : Obj) (its : Array Value) (n : Nat), K.lookup a = some o ∧ o.cls = .type "list" ∧ o.dict = none ∧ o.data = .seq its n ∧ its.size ≤ sizeLine ∧ Vals xs its.toList
def SqT (K : PySem.W.Frag) (H : Hp) (a : Addr) (xs : List V) : Prop :=
  Rd H a (.tup xs) ∨
    ∃ (o : Obj) (its : Array Value) (n : Nat), K.lookup a = some o ∧ o.cls = .type "tuple" ∧ o.data = .seq its n ∧ its.size ≤ sizeLine ∧ Vals xs its.toList
def absV : Value → Option V
  | .none => some .non
  | .bool b => some (.bl b)
  | .int i _ => some (.int i)
  | .str x _ => some (.str x)
  | .bytes b _ => some (.byt b)
  | .float b _ => some (.flt b)
  | .ref a => some (.ref a)
  | .type n => some (.ty n)
  | _ => none
theorem RelV.abs {x : V} {u : Value} (r : RelV x u) : absV u = some x := by
  cases x with
  | non => cases r; rfl
  | bl _ => cases r; rfl
  | int _ => obtain ⟨t, rfl⟩ := r; rfl
  | str _ => obtain ⟨t, rfl⟩ := r; rfl
  | byt _ => obtain ⟨t, rfl⟩ := r; rfl
  | flt _ => obtain ⟨t, rfl⟩ := r; rfl
  | ref _ => cases r; rfl
  | ty _ => cases r; rfl
theorem RelV.inj {x y : V} {u : Value} (r : RelV x u) (q : RelV y u) : x = y := Option.some.inj (r.abs.symm.trans q.abs)
theorem Vals.inj : ∀ {xs ys : List V} {us : List Value}, Vals xs us → Vals ys us → xs = ys
  | _, _, _, .nil, .nil => rfl
  | _, _, _, .cons r t, .cons r' t' => by rw [r.inj r', Vals.inj t t']
section
variable {X : Cx} {pins : List (Addr × Obj)} {σ : St} {H : Hp} {s : Shared} {a : Addr} {xs ys : List V}
theorem SqL.of {K : PySem.W.Frag} (h : H a = some (.lst xs)) : SqL K H a xs := .inl (.inl h)
theorem SqT.of {K : PySem.W.Frag} (h : H a = some (.tup xs)) : SqT K H a xs := .inl (.inl h)
theorem Inv.list (I : Inv X pins σ H s) (h : SqL X.K H a xs) : ∃ its : List Value, Vals xs its ∧ PlainL s.heap a its.toArray ∧ xs.length ≤ sizeLine := by
  rcases h with h | ⟨o, its, n, hk, hc, hd, hs, hz, r⟩
  · obtain ⟨z, its, n, r, e⟩ := h.ok I.hok
    exact ⟨its, r, ⟨_, n, e, rfl, rfl, rfl⟩, z⟩
  · refine ⟨its.toList, r, ⟨o, n, I.kIn a o hk, hc, hd, by simpa using hs⟩, ?_⟩
    have e := r.length
    simp only [Array.length_toList] at e
    omega
theorem Inv.tuple (I : Inv X pins σ H s) (h : SqT X.K H a xs) : ∃ its : List Value, Vals xs its ∧ IsTup s.heap a its.toArray ∧ xs.length ≤ sizeLine := by
  rcases h with h | ⟨o, its, n, hk, hc, hs, hz, r⟩
  · obtain ⟨z, its, r, p⟩ := h.ok I.hok
    exact ⟨its, r, p, z⟩
  · refine ⟨its.toList, r, ⟨o, I.kIn a o hk, hc, n, by simpa using hs⟩, ?_⟩
    have e := r.length
    simp only [Array.length_toList] at e
    omega
theorem Inv.list_inj (I : Inv X pins σ H s) (h : SqL X.K H a xs) (h' : SqL X.K H a ys) : xs = ys := by
  obtain ⟨its, r, ⟨o, n, e, _, _, d⟩, _⟩ := I.list h
  obtain ⟨its', r', ⟨o', n', e', _, _, d'⟩, _⟩ := I.list h'
  rw [e] at e'; cases e'
  rw [d] at d'
  injection d' with d1 _
  have : its = its' := by simpa using congrArg Array.toList d1
  subst this
  exact r.inj r'
theorem Inv.tuple_inj (I : Inv X pins σ H s) (h : SqT X.K H a xs) (h' : SqT X.K H a ys) : xs = ys := by
  obtain ⟨its, r, ⟨o, e, _, n, d⟩, _⟩ := I.tuple h
  obtain ⟨its', r', ⟨o', e', _, n', d'⟩, _⟩ := I.tuple h'
  rw [e] at e'; cases e'
  rw [d] at d'
  injection d' with d1 _
  have : its = its' := by simpa using congrArg Array.toList d1
  subst this
  exact r.inj r'
end

/-! ### another wish about exceptions -/
abbrev Cx.wish (X : Cx) (E : Value → Shared → Prop) : Cx := { X with xe := E }
/-- no exception leaves -/
abbrev Cx.nox (X : Cx) : Cx := X.wish fun _ _ => False
theorem Cx.Ok.wish {X : Cx} (ok : X.Ok) (E : Value → Shared → Prop) : (X.wish E).Ok :=
  ⟨ok.mod, ok.kind, ok.glob, ok.blt, ok.above, ok.inj, ok.has, ok.cab, ok.hd, ok.frames, ok.stk, ok.exf, ok.bs, ok.bsz, ok.noex, ok.exfs, ok.funs, ok.frf⟩
theorem Cx.Ok.unwish {X : Cx} {E : Value → Shared → Prop} (ok : (X.wish E).Ok) : X.Ok :=
  ⟨ok.mod, ok.kind, ok.glob, ok.blt, ok.above, ok.inj, ok.has, ok.cab, ok.hd, ok.frames, ok.stk, ok.exf, ok.bs, ok.bsz, ok.noex, ok.exfs, ok.funs, ok.frf⟩
section
variable {X : Cx} {pins : List (Addr × Obj)} {σ : St} {H : Hp} {s : Shared} {E : Value → Shared → Prop}
theorem Inv.wish (I : Inv X pins σ H s) (E : Value → Shared → Prop) : Inv (X.wish E) pins σ H s := ⟨I.ok.wish E, I.os, I.bare, I.base, I.loc, I.cell, I.free, I.freeC, I.pin, I.hok, I.len⟩
theorem Inv.unwish (I : Inv (X.wish E) pins σ H s) : Inv X pins σ H s := ⟨I.ok.unwish, I.os, I.bare, I.base, I.loc, I.cell, I.free, I.freeC, I.pin, I.hok, I.len⟩
theorem SP.unwish {D : Ends} {f : Flow} {s' : Shared} (h : SP (X.wish E) pins D f s') : SP X pins D f s' := by
  cases f with
  | next => obtain ⟨σ', H', I, q⟩ := h; exact ⟨σ', H', I.unwish, q⟩
  | brk => obtain ⟨σ', H', I, q⟩ := h; exact ⟨σ', H', I.unwish, q⟩
  | cont => obtain ⟨σ', H', I, q⟩ := h; exact ⟨σ', H', I.unwish, q⟩
  | ret u => obtain ⟨v, σ', H', I, r, q⟩ := h; exact ⟨v, σ', H', I.unwish, r, q⟩
theorem PE.nox {e : Expr} {t : TE} (h : PE X.nox e t) : PE X e t := fun pins s σ H Q I hw =>
  wpAny_mono (h pins s σ H Q (I.wish _) hw) (fun _ _ ⟨v, H', I', r, q⟩ => ⟨v, H', I'.unwish, r, q⟩) fun _ _ z => False.elim z
theorem PT.nox {e : Expr} {t : TT} (h : PT X.nox e t) : PT X e t := fun pins s σ H Q I hw =>
  wpAny_mono (h pins s σ H Q (I.wish _) hw) (fun _ _ ⟨H', I', q⟩ => ⟨H', I'.unwish, q⟩) fun _ _ z => False.elim z
theorem PSs.nox {st : List Stmt} {t : TS} (h : PSs X.nox st t) : PSs X st t := fun pins s σ H D I hw =>
  wpAny_mono (h pins s σ H D (I.wish _) hw) (fun _ _ q => q.unwish) fun _ _ z => False.elim z
end

/-! ### blocks and small statements -/
section
variable {X : Cx} {st : Stmt} {rest : List Stmt} {t u : TS} {e : Expr} {te : TE} {pos : Pos}
def tNext : TS := fun D σ H => D.nx σ H
def tSeq (t u : TS) : TS := fun D σ H => t { D with nx := u D } σ H
theorem pss_nil : PSs X [] tNext := fun _ _ σ H _ I h => wpAny_execs_nil ⟨σ, H, I, h⟩
theorem pss_cons (h1 : PS X st t) (h2 : PSs X rest u) : PSs X (st :: rest) (tSeq t u) := by
  intro pins s σ H D I h
  refine wpAny_execs_cons (thn (h1 pins s σ H { D with nx := u D } I h) fun f s1 q => ?_)
  cases f with
  | next =>
    obtain ⟨σ', H', I', q⟩ := q
    exact h2 pins s1 σ' H' D I' q
  | ret v => exact q
  | brk => exact q
  | cont => exact q
theorem pss_one (h1 : PS X st t) : PSs X [st] t := by
  intro pins s σ H D I h
  refine wpAny_execs_cons (thn (h1 pins s σ H D I h) fun f s1 q => ?_)
  cases f with
  | next => exact wpAny_execs_nil q
  | ret v => exact q
  | brk => exact q
  | cont => exact q
/-- in a def's body nothing is shown -/
theorem Inv.quiet {pins : List (Addr × Obj)} {σ : St} {H : Hp} {s : Shared} (I : Inv X pins σ H s) : interactive X.env = false := by simp [interactive, I.ok.kind]
/-- an expression whose value is dropped -/
def tDrop (te : TE) : TS := fun D σ H => te σ H fun _ H1 => D.nx σ H1
theorem ps_expr (he : PE X e te) (hs : swapsWith e none pos.line X.env = pure false := by rfl) : PS X (.Expr e pos) (tDrop te) := by
  intro pins s σ H D I h
  exact wpAny_Expr_any (thn (he pins s σ H _ I h) fun v s1 ⟨x, H1, I1, r1, q1⟩ => ⟨σ, H1, I1, q1⟩) I.quiet hs
def tRet (te : TE) : TS := fun D σ H => te σ H D.rt
theorem ps_ret (he : PE X e te) : PS X (.Return (some e) pos) (tRet te) := by
  intro pins s σ H D I h
  exact wpAny_Return_some (thn (he pins s σ H _ I h) fun v s1 ⟨x, H1, I1, r1, q1⟩ => ⟨x, σ, H1, I1, r1, q1⟩)
def tIfS (c : TT) (t u : TS) : TS := fun D σ H => c σ H fun b H1 => if b = true then t D σ H1 else u D σ H1
theorem ps_if {c : Expr} {a b : List Stmt} {tc : TT} (hc : PT X c tc) (ha : PSs X a t) (hb : PSs X b u) : PS X (.If c a b pos) (tIfS tc t u) := by
  intro pins s σ H D I h
  refine wpAny_If (thn (hc pins s σ H _ I h) fun d s1 ⟨H1, I1, q1⟩ => ?_)
  cases d with
  | true => exact ha pins s1 σ H1 D I1 q1
  | false => exact hb pins s1 σ H1 D I1 q1
end

/-! ### targets -/
abbrev TG := V → St → Hp → (St → Hp → Prop) → Prop
abbrev TGs := List V → St → Hp → (St → Hp → Prop) → Prop
def PG (X : Cx) (target : Expr) (t : TG) : Prop :=
  ∀ (pins : List (Addr × Obj)) (s : Shared) (σ : St) (H : Hp) (v : V) (u : Value) (Q : St → Hp → Prop), Inv X pins σ H s → RelV v u → t v σ H Q →
    wpAny (model X.prog X.w) X.A (assign target X.env u) (fun _ s' => ∃ σ' H', Inv X pins σ' H' s' ∧ Q σ' H') X.xe s
/-- several targets, one after another -/
def PGs (X : Cx) (ts : List Expr) (t : TGs) : Prop :=
  ∀ (pins : List (Addr × Obj)) (s : Shared) (σ : St) (H : Hp) (vs : List V) (us : List Value) (Q : St → Hp → Prop), Inv X pins σ H s → Vals vs us → t vs σ H Q →
    wpAny (model X.prog X.w) X.A (assignInOrder ((assignEach ts X.env).map (·.2)) us) (fun _ s' => ∃ σ' H', Inv X pins σ' H' s' ∧ Q σ' H') X.xe s
/-- o[i] = v, by values -/
abbrev TSet := V → V → V → Hp → (Hp → Prop) → Prop
def PSet (X : Cx) (t : TSet) : Prop :=
  ∀ (pins : List (Addr × Obj)) (s : Shared) (σ : St) (H : Hp) (o i v : V) (ov iv u : Value) (Q : Hp → Prop), Inv X pins σ H s → RelV o ov → RelV i iv → RelV v u → t o i v H Q →
    wpAny (model X.prog X.w) X.A (setItem ov iv u) (fun _ s' => ∃ H', Inv X pins σ H' s' ∧ Q H') X.xe s
section
variable {X : Cx} {pos : Pos}
def gName (i : Nat) : TG := fun v σ H Q => Q (σ.set i (some v)) H
theorem pg_name {i : Nat} {x : Str} (hN : X.N.Nodup) (hi : X.N[i]? = some x) (hx : Loc X.env.scope x) (hf : X.fn x = true ∨ X.env.scope.names.lookup x = some .local := by first | exact .inl rfl | exact .inr rfl | assumption) : PG X (.Name x pos) (gName i) := by
  intro pins s σ H v u Q I r h
  exact wpAny_assign_Name (store_ok I hN hi hx r (fun s' I' => ⟨_, H, I', h⟩) hf)
def gNil : TGs := fun vs σ H Q => vs = [] ∧ Q σ H
def gCons (t : TG) (u : TGs) : TGs := fun vs σ H Q => ∃ v r, vs = v :: r ∧ t v σ H fun σ' H' => u r σ' H' Q
theorem pgs_nil : PGs X [] gNil := by
  intro pins s σ H vs us Q I r h
  obtain ⟨e, h⟩ := h
  subst e
  cases r
  exact assignInOrder_nil ⟨σ, H, I, h⟩
theorem pgs_cons {e : Expr} {es : List Expr} {t : TG} {u : TGs} (h1 : PG X e t) (h2 : PGs X es u)
    (hs : (assignEach (e :: es) X.env).map (·.2) = assign e X.env :: (assignEach es X.env).map (·.2) := by rfl) : PGs X (e :: es) (gCons t u) := by
  intro pins s σ H vs us Q I r h
  obtain ⟨v, vr, e1, h⟩ := h
  subst e1
  cases r with
  | cons r rr =>
    rw [hs]
    refine assignInOrder_cons (thn (h1 pins s σ H _ _ _ I r h) fun _ s1 ⟨σ1, H1, I1, q1⟩ => ?_)
    exact h2 pins s1 σ1 H1 _ _ Q I1 rr q1
/-- (a, b, ..) = a tuple of that length -/
def gTup (K : PySem.W.Frag) (n : Nat) (t : TGs) : TG := fun v σ H Q => ∃ a xs, v = .ref a ∧ SqT K H a xs ∧ xs.length = n ∧ t xs σ H Q
theorem pg_tup {es : List Expr} {k : Nat} {t : TGs} {n : Nat} (hc : X.calm = true) (h : PGs X es t)
    (hn : (assignEach es X.env).length = n := by rfl) (hst : (assignEach es X.env).findIdx? (·.1) = none := by rfl) : PG X (.Tuple es k pos) (gTup X.K n t) := by
  intro pins s σ H v u Q I r hw
  obtain ⟨a, xs, e1, hq, hl, hw⟩ := hw
  subst e1
  cases r
  obtain ⟨its, rv, ht, hz⟩ := I.tuple hq
  refine assign_Tuple_tuple (I.ok.hd hc) ht (by simp [hn, ← hl, rv.length]) hst fun h' hx => ?_
  have I1 : Inv X pins σ H { s with heap := h' } := I.kept (t' := s.toks) fun b o e => hx b o (Nat.ne_of_lt (Heap.lt_size e)) e
  exact h pins _ σ H xs _ Q I1 (by simpa using rv) hw
/-- o[i] = .. -/
def gSub (to ti : TE) (t : TSet) : TG := fun v σ H Q => to σ H fun o H1 => ti σ H1 fun i H2 => t o i v H2 fun H3 => Q σ H3
theorem pg_sub {o i : Expr} {to ti : TE} {t : TSet} (ho : PE X o to) (hi : PE X i ti) (hs : PSet X t)
    (ha : ∀ v, assign (.Subscript o i pos) X.env v = (do
      let ov ← holding [v] (eval o X.env)
      let iv ← holding [v, ov] (eval i X.env)
      standAt pos
      holding [v, ov, iv] (setItem ov iv v)
      release [v, ov, iv] []) := by intro _; rfl) : PG X (.Subscript o i pos) (gSub to ti t) := by
  intro pins s σ H v u Q I r h
  rw [ha]
  refine wpAny_bind (wpAny_holding (thn (ho pins s σ H _ I h) fun ov s1 ⟨x, H1, I1, r1, q1⟩ => ?_))
  refine wpAny_bind (wpAny_holding (thn (hi pins s1 σ H1 _ I1 q1) fun iv s2 ⟨y, H2, I2, r2, q2⟩ => ?_))
  refine wpAny_bind (wpAny_standAt (wpAny_bind (wpAny_holding (thn (hs pins s2 σ H2 x y v ov iv u _ I2 r1 r2 r q2) fun _ s3 ⟨H3, I3, q3⟩ => ?_))))
  exact wpAny_release ⟨σ, H3, I3, q3⟩
/-- target = value -/
def tAsg (te : TE) (g : TG) : TS := fun D σ H => te σ H fun x H1 => g x σ H1 D.nx
theorem ps_asg {tg e : Expr} {te : TE} {g : TG} (he : PE X e te) (hg : PG X tg g) (hs : swapsWithSole [tg] e pos.line X.env = pure false := by rfl) (hw : swappedStores [tg] e X.env = pure none := by rfl)
    (h1 : (assignEach [tg] X.env).map (·.2) = [assign tg X.env] := by rfl) : PS X (.Assign [tg] e pos) (tAsg te g) := by
  intro pins s σ H D I h
  refine wpAny_Assign_stores (thn (he pins s σ H _ I h) fun v s1 ⟨x, H1, I1, r1, q1⟩ => ?_) hs hw
  rw [h1]
  exact thn (hg pins s1 σ H1 x v _ I1 r1 q1) fun _ s2 q => q
/-- name = value -/
theorem ps_set {i : Nat} {x : Str} {e : Expr} {te : TE} {pos' : Pos} (hN : X.N.Nodup) (hi : X.N[i]? = some x) (hx : Loc X.env.scope x) (he : PE X e te) (hs : swapsWith e (some (.Name x pos')) pos.line X.env = pure false := by rfl) (hf : X.fn x = true ∨ X.env.scope.names.lookup x = some .local := by first | exact .inl rfl | exact .inr rfl | assumption) :
    PS X (.Assign [.Name x pos'] e pos) (tAsg te (gName i)) := by
  intro pins s σ H D I h
  refine wpAny_Assign_Name (thn (he pins s σ H _ I h) fun v s1 ⟨y, H1, I1, r1, q1⟩ => ?_) hs
  exact store_ok I1 hN hi hx r1 (fun s2 I2 => ⟨_, H1, I2, q1⟩) hf
end

/-! ### while -/
section
variable {X : Cx} {pos : Pos}
/-- the invariant W with its measure -/
def tWhile (c : TT) (tb : TS) : TS := fun D σ H => ∃ W : Nat → St → Hp → Prop, (∃ m, W m σ H) ∧ ∀ m σ H, W m σ H →
  c σ H fun b H1 => if b = true then ∃ N : St → Hp → Prop, (∀ σ' H', N σ' H' → ∃ m', m' < m ∧ W m' σ' H') ∧ tb { D with nx := N, ct := N, bk := D.nx } σ H1 else D.nx σ H1
theorem ps_while {c : Expr} {body : List Stmt} {tc : TT} {tb : TS} (hp : PassesOwn (model X.prog X.w) X.A X.env X.xe) (hc : PT X c tc) (hb : PSs X body tb) : PS X (.While c body [] pos) (tWhile tc tb) := by
  intro pins s σ H D I h
  obtain ⟨W, ⟨m0, w0⟩, turn⟩ := h
  refine wpAny_While (codeAny_whileLoop (fun n s' => ∃ σ' H', Inv X pins σ' H' s' ∧ W n σ' H') ?_ m0 ⟨σ, H, I, w0⟩)
  rintro n s1 ⟨σ1, H1, I1, w1⟩
  refine wpAny_passesOwn hp (thn (hc pins s1 σ1 H1 _ I1 (turn n σ1 H1 w1)) fun b s2 ⟨H2, I2, q2⟩ => ?_)
  cases b with
  | true =>
    obtain ⟨N, hN, q2⟩ := q2
    rw [if_pos rfl]
    refine wpAny_passesOwn hp (thn (hb pins s2 σ1 H2 _ I2 q2) fun f s3 q3 => ?_)
    cases f with
    | next =>
      obtain ⟨σ3, H3, I3, n3⟩ := q3
      obtain ⟨m', hm, w3⟩ := hN σ3 H3 n3
      exact ⟨m', hm, σ3, H3, I3, w3⟩
    | cont =>
      obtain ⟨σ3, H3, I3, n3⟩ := q3
      obtain ⟨m', hm, w3⟩ := hN σ3 H3 n3
      exact ⟨m', hm, σ3, H3, I3, w3⟩
    | brk => exact q3
    | ret v => exact q3
  | false =>
    rw [if_neg Bool.false_ne_true]
    exact wpAny_execs_nil ⟨σ1, H2, I2, q2⟩
end

/-! ### what a loop or a comprehension walks -/
/-- at turn i: it yields x (the heap may grow), or it stops -/
structure It where
  go : Nat → Hp → Prop
  yld : Nat → Hp → V → Hp → Prop
  stop : Nat → Hp → Prop
/-- the iterator's own objects may turn: they are not the frame's, not pinned, younger than the entry (or a comprehension's own) -/
def FpOk (X : Cx) (pins : List (Addr × Obj)) (H : Hp) (b : Addr) : Prop :=
  H b = none ∧ b ≠ X.env.locals ∧ b ∉ X.fs ∧ (b ∈ X.ex ∨ X.s_0.heap.objs.size ≤ b) ∧ (∀ x c, X.env.cells.lookup x = some c → c ≠ b) ∧ ∀ p ∈ X.pn ++ pins, p.1 ≠ b
theorem Inv.fpOk {X : Cx} {pins : List (Addr × Obj)} {σ : St} {H H' : Hp} {s : Shared} {b : Addr} (I : Inv X pins σ H s) (hb : s.heap.objs.size ≤ b) (hn : H' b = none) : FpOk X pins H' b := by
  refine ⟨hn, Nat.ne_of_gt (Nat.lt_of_lt_of_le I.lt hb), I.nofs hb, .inr (Nat.le_trans I.sz hb), fun x c e z => ?_, fun p hp z => ?_⟩
  · obtain ⟨v, q⟩ := I.cell x c e
    exact absurd (Nat.lt_of_lt_of_le q.lt (by rw [z]; exact hb)) (Nat.lt_irrefl _)
  · exact absurd (Nat.lt_of_lt_of_le (Heap.lt_size (I.pin p hp).1) (by rw [z]; exact hb)) (Nat.lt_irrefl _)
structure Turn (P : Program) (w : World) (K : PySem.W.Frag) (tg : Expr) (J : It) (fp : List Addr) (it : Addr) (tn : Nat → Heap → Prop) : Prop where
  mem : it ∈ fp
  obj : ∀ i h, tn i h → ∀ b ∈ fp, ∃ o, h.get? b = some o ∧ ∀ v, o.data ≠ .cell v
  keep : ∀ i h h', tn i h → (∀ b ∈ fp, ∀ o, h.get? b = some o → h'.get? b = some o) → tn i h'
  item : ∀ (X : Cx), X.prog = P → X.w = w → X.K = K → X.calm = true → ∀ (i : Nat) (pins : List (Addr × Obj)) (s : Shared) (σ : St) (H : Hp) (E : Value → Shared → Prop), Inv X pins σ H s → (∀ b ∈ fp, FpOk X pins H b) → tn i s.heap → J.go i H →
    wpAny (model P w) X.A (pyNext (.ref it)) (fun r s1 => ∃ u, r = some u ∧
      wpAny (model P w) X.A (letOwnedTupleGo tg (.ref it) u) (fun _ s2 => ∃ x H', Inv X pins σ H' s2 ∧ RelV x u ∧ J.yld i H x H' ∧ tn (i + 1) s2.heap ∧ ∀ b ∈ fp, H' b = none) E s1) E s
  done : ∀ (X : Cx), X.prog = P → X.w = w → X.K = K → X.calm = true → ∀ (i : Nat) (pins : List (Addr × Obj)) (s : Shared) (σ : St) (H : Hp) (E : Value → Shared → Prop), Inv X pins σ H s → (∀ b ∈ fp, FpOk X pins H b) → tn i s.heap → J.stop i H →
    wpAny (model P w) X.A (pyNext (.ref it)) (fun r s1 => r = none ∧ Inv X pins σ H s1) E s
  self : ∀ (A : Around) (i : Nat) (s : Shared) (Q : Value → Shared → Prop) (E : Value → Shared → Prop), tn i s.heap → Q (.ref it) s → wpAny (model P w) A (pyIter (.ref it)) Q E s
abbrev TI := St → Hp → (It → Hp → Prop) → Prop
/-- an iterator has come -/
def PIE (X : Cx) (pins : List (Addr × Obj)) (σ : St) (tg : Expr) (R : It → Hp → Prop) (itv : Value) (s2 : Shared) : Prop :=
  ∃ (it : Addr) (fp : List Addr) (tn : Nat → Heap → Prop) (J : It) (H' : Hp), itv = .ref it ∧ Inv X pins σ H' s2 ∧ Turn X.prog X.w X.K tg J fp it tn ∧ tn 0 s2.heap ∧ (∀ b ∈ fp, FpOk X pins H' b) ∧ R J H'
def PI (X : Cx) (tg iter : Expr) (wi : TI) : Prop :=
  ∀ (pins : List (Addr × Obj)) (s : Shared) (σ : St) (H : Hp) (R : It → Hp → Prop), Inv X pins σ H s → wi σ H R →
    wpAny (model X.prog X.w) X.A (eval iter X.env) (fun v s1 => wpAny (model X.prog X.w) X.A (pyIter v) (PIE X pins σ tg R) X.xe s1) X.xe s

/-- the step ahead of the store is nothing for an iterator that keeps no tuple -/
theorem go_of {M : Model} {A : Around} {E : Value → Shared → Prop} {s : Shared} {tg : Expr} {it : Addr} {u : Value} {o : Obj} {n : String} {vs : Array Value} {Q : Unit → Shared → Prop} (ho : s.heap.get? it = some o) (hc : o.cls = .type n) (hd : o.data = .fields vs)
    (hn : ["enumerate", "zip", "dict_itemiterator", "dict_reverseitemiterator", "odict_iterator", "itertools.zip_longest", "itertools.pairwise"].contains n = false) (hQ : Q () s) : wpAny M A (letOwnedTupleGo tg (.ref it) u) Q E s := by
  unfold letOwnedTupleGo
  cases tg <;> first
    | exact wpAny_pure hQ
    | (cases u <;> first
        | exact wpAny_pure hQ
        | (refine wpAny_bind (wpAny_load ho ?_)
           rw [hc, hd]
           show wpAny M A (if (["enumerate", "zip", "dict_itemiterator", "dict_reverseitemiterator", "odict_iterator", "itertools.zip_longest", "itertools.pairwise"].contains n && vs[0]? == some (rawInt _)) = true then _ else _) Q E s
           rw [if_neg (by intro h; rw [hn, Bool.false_and] at h; cases h)]
           exact wpAny_pure hQ))

/-- the list at a, as it stands at each turn (a loop may append to it) -/
def Itl (K : PySem.W.Frag) (a : Addr) : It :=
  ⟨fun i H => ∃ xs x, SqL K H a xs ∧ xs[i]? = some x, fun i H x H' => H' = H ∧ ∀ xs, SqL K H a xs → xs[i]? = some x, fun i H => ∃ xs, SqL K H a xs ∧ xs.length ≤ i⟩
def Itt (K : PySem.W.Frag) (a : Addr) : It :=
  ⟨fun i H => ∃ xs x, SqT K H a xs ∧ xs[i]? = some x, fun i H x H' => H' = H ∧ ∀ xs, SqT K H a xs → xs[i]? = some x, fun i H => ∃ xs, SqT K H a xs ∧ xs.length ≤ i⟩
/-- lo, lo + 1, .. (n of them) -/
def Itr (lo : Int) (n : Nat) : It := ⟨fun i _ => i < n, fun i H x H' => H' = H ∧ x = .int (lo + i), fun i _ => n ≤ i⟩
theorem turn_list {P : Program} {w : World} {K : PySem.W.Frag} {tg : Expr} (a it : Addr) : Turn P w K tg (Itl K a) [it] it (fun i h => h.IsListIter it a i) where
  mem := by simp
  obj := fun i h st b hb => by
    have e : b = it := by simpa using hb
    subst e
    obtain ⟨o, e, c, d⟩ := st
    exact ⟨o, e, fun v z => by rw [d] at z; cases z⟩
  keep := fun i h h' st k => st.at fun o e => k it (by simp) o e
  item := by
    intro X hP hw hK hc i pins s σ H E I hf st hg
    subst hP hw hK
    obtain ⟨xs, x, hq, hx⟩ := hg
    obtain ⟨its, rv, p, hz⟩ := I.list hq
    obtain ⟨u, hu, ru⟩ := rv.get hx
    obtain ⟨f0, f1, f2, f3, f4, f5⟩ := hf it (by simp)
    refine wpAny_pyNext_list_item st p.isList (x := u) (by simpa using hu) fun h' st' sb => ?_
    have I1 : Inv X pins σ H { s with heap := h' } := I.turned (t' := s.toks) (fun b o hb e => (sb.2 b hb).trans e) f0 f1 f3 f4 f5
    obtain ⟨o, e, c, d⟩ := id st'
    exact ⟨u, rfl, go_of (s := { s with heap := h' }) e c d (by decide) ⟨x, H, I1, ru, ⟨rfl, fun ys hy => by rw [I.list_inj hy hq]; exact hx⟩, st', fun b hb => (hf b hb).1⟩⟩
  done := by
    intro X hP hw hK hc i pins s σ H E I hf st hg
    subst hP hw hK
    obtain ⟨xs, hq, hx⟩ := hg
    obtain ⟨its, rv, p, hz⟩ := I.list hq
    obtain ⟨f0, f1, f2, f3, f4, f5⟩ := hf it (by simp)
    have hl := rv.length
    exact wpAny_pyNext_list_end (I.ok.hd hc) st p.isList (by simp; omega) fun h' eb => ⟨rfl, I.turned (t' := s.toks) (fun b o hb e => eb b o hb e) f0 f1 f3 f4 f5⟩
  self := fun _ _ _ _ _ st h => wpAny_pyIter_listiter st h
theorem turn_tuple {P : Program} {w : World} {K : PySem.W.Frag} {tg : Expr} (a it : Addr) : Turn P w K tg (Itt K a) [it] it (fun i h => h.IsTupleIter it a i) where
  mem := by simp
  obj := fun i h st b hb => by
    have e : b = it := by simpa using hb
    subst e
    obtain ⟨o, e, c, d⟩ := st
    exact ⟨o, e, fun v z => by rw [d] at z; cases z⟩
  keep := fun i h h' st k => st.at fun o e => k it (by simp) o e
  item := by
    intro X hP hw hK hc i pins s σ H E I hf st hg
    subst hP hw hK
    obtain ⟨xs, x, hq, hx⟩ := hg
    obtain ⟨its, rv, p, hz⟩ := I.tuple hq
    obtain ⟨u, hu, ru⟩ := rv.get hx
    obtain ⟨f0, f1, f2, f3, f4, f5⟩ := hf it (by simp)
    refine wpAny_pyNext_tuple_item st (show s.heap.IsTuple a its.toArray from p) (x := u) (by simpa using hu) fun h' st' sb => ?_
    have I1 : Inv X pins σ H { s with heap := h' } := I.turned (t' := s.toks) (fun b o hb e => (sb.2 b hb).trans e) f0 f1 f3 f4 f5
    obtain ⟨o, e, c, d⟩ := id st'
    exact ⟨u, rfl, go_of (s := { s with heap := h' }) e c d (by decide) ⟨x, H, I1, ru, ⟨rfl, fun ys hy => by rw [I.tuple_inj hy hq]; exact hx⟩, st', fun b hb => (hf b hb).1⟩⟩
  done := by
    intro X hP hw hK hc i pins s σ H E I hf st hg
    subst hP hw hK
    obtain ⟨xs, hq, hx⟩ := hg
    obtain ⟨its, rv, p, hz⟩ := I.tuple hq
    obtain ⟨f0, f1, f2, f3, f4, f5⟩ := hf it (by simp)
    have hl := rv.length
    exact wpAny_pyNext_tuple_end (I.ok.hd hc) st (show s.heap.IsTuple a its.toArray from p) (by simp; omega) fun h' eb => ⟨rfl, I.turned (t' := s.toks) (fun b o hb e => eb b o hb e) f0 f1 f3 f4 f5⟩
  self := fun _ _ _ _ _ st h => wpAny_pyIter_tupleiter st h
theorem turn_range {P : Program} {w : World} {K : PySem.W.Frag} {tg : Expr} (it : Addr) (lo : Int) (n : Nat) : Turn P w K tg (Itr lo n) [it] it (fun i h => IsRangeIter h it (lo + (i : Nat) * 1) ((n : Int) - (i : Nat)) 1) where
  mem := by simp
  obj := fun i h st b hb => by
    have e : b = it := by simpa using hb
    subst e
    exact ⟨_, st, fun v z => by
      have z' : Data.fields _ = Data.cell v := z
      cases z'⟩
  keep := fun i h h' st k => k it (by simp) _ st
  item := by
    intro X hP hw hK hc i pins s σ H E I hf st hg
    subst hP hw hK
    obtain ⟨f0, f1, f2, f3, f4, f5⟩ := hf it (by simp)
    have W := Walks.range (prog := X.prog) (w := X.w) (I.ok.hd hc) it lo 1 n
    refine W.item i s _ _ hg st fun v h' tk hv st' kk => ?_
    obtain ⟨t, rfl⟩ := hv
    have I1 : Inv X pins σ H { s with heap := h', toks := tk } := I.turned (fun b o hb e => kk b o (by simpa using hb) e) f0 f1 f3 f4 f5
    refine ⟨_, rfl, go_of (s := { s with heap := h', toks := tk }) (n := "range_iterator") st' rfl rfl (by decide) ⟨.int (lo + i), H, I1, ⟨t, ?_⟩, ⟨rfl, rfl⟩, st', fun b hb => (hf b hb).1⟩⟩
    rw [Int.mul_one]
  done := by
    intro X hP hw hK hc i pins s σ H E I hf st hg
    subst hP hw hK
    obtain ⟨f0, f1, f2, f3, f4, f5⟩ := hf it (by simp)
    exact wpAny_pyNext_range_end (I.ok.hd hc) st (by have : n ≤ i := hg; omega) fun h' eb => ⟨rfl, I.turned (t' := s.toks) (fun b o hb e => eb b o hb e) f0 f1 f3 f4 f5⟩
  self := fun _ _ _ _ _ st h => wpAny_pyIter_rangeiter st h
end L2

namespace L2
open PySem PySem.Spec PyProof.Rows
section
variable {X : Cx} {tg : Expr}
def iList (K : PySem.W.Frag) (tl : TE) : TI := fun σ H R => tl σ H fun x H1 => ∃ a, x = .ref a ∧ (∃ xs, SqL K H1 a xs) ∧ R (Itl K a) H1
def iTup (K : PySem.W.Frag) (tl : TE) : TI := fun σ H R => tl σ H fun x H1 => ∃ a, x = .ref a ∧ (∃ xs, SqT K H1 a xs) ∧ R (Itt K a) H1
theorem pi_list {l : Expr} {tl : TE} (hl : PE X l tl) : PI X tg l (iList X.K tl) := by
  intro pins s σ H R I h
  refine thn (hl pins s σ H _ I h) fun v s1 ⟨x, H1, I1, r1, q1⟩ => ?_
  obtain ⟨a, e, ⟨xs, hq⟩, q⟩ := q1
  subst e
  cases r1
  obtain ⟨its, rv, p, hz⟩ := I1.list hq
  refine wpAny_pyIter_list p.isList ?_
  refine ⟨s1.heap.objs.size, [s1.heap.objs.size], _, _, H1, rfl, I1.kept (t' := s1.toks) fun b o e => Heap.get?_push_of_some _ e, turn_list a _, ⟨_, Heap.get?_push_size _ rfl, rfl, rfl⟩, fun b hb => ?_, q⟩
  have e : b = s1.heap.objs.size := by simpa using hb
  subst e
  exact I1.fpOk (Nat.le_refl _) (I1.hok.fresh (Nat.le_refl _))
theorem pi_tup {l : Expr} {tl : TE} (hl : PE X l tl) : PI X tg l (iTup X.K tl) := by
  intro pins s σ H R I h
  refine thn (hl pins s σ H _ I h) fun v s1 ⟨x, H1, I1, r1, q1⟩ => ?_
  obtain ⟨a, e, ⟨xs, hq⟩, q⟩ := q1
  subst e
  cases r1
  obtain ⟨its, rv, p, hz⟩ := I1.tuple hq
  refine wpAny_pyIter_tuple (show s1.heap.IsTuple a its.toArray from p) ?_
  refine ⟨s1.heap.objs.size, [s1.heap.objs.size], _, _, H1, rfl, I1.kept (t' := s1.toks) fun b o e => Heap.get?_push_of_some _ e, turn_tuple a _, ⟨_, Heap.get?_push_size _ rfl, rfl, rfl⟩, fun b hb => ?_, q⟩
  have e : b = s1.heap.objs.size := by simpa using hb
  subst e
  exact I1.fpOk (Nat.le_refl _) (I1.hok.fresh (Nat.le_refl _))
/-- a range object just made, walked -/
theorem range_it {pins : List (Addr × Obj)} {σ : St} {H : Hp} {s : Shared} {R : It → Hp → Prop} {E : Value → Shared → Prop} {lo hi : Int} {t u v : Tok} {tk : Nat} (I : Inv X pins σ H s) (h1 : -(2 ^ 62) ≤ lo) (h2 : lo < 2 ^ 62) (h3 : -(2 ^ 62) ≤ hi) (h4 : hi < 2 ^ 62)
    (q : R (Itr lo (hi - lo).toNat) H) : wpAny (model X.prog X.w) X.A (pyIter (.ref s.heap.objs.size)) (PIE X pins σ tg R) E { s with heap := s.heap.push { cls := .type "range", data := .fields #[.int lo t, .int hi u, .int 1 v] }, toks := tk } := by
  refine wpAny_pyIter_range (IsRange.new ..) (small_one h1 h2 h3 h4) ?_
  have I1 : Inv X pins σ H { s with heap := s.heap.push { cls := .type "range", data := .fields #[.int lo t, .int hi u, .int 1 v] }, toks := tk } := I.kept fun b o e => Heap.get?_push_of_some _ e
  refine ⟨(s.heap.push { cls := .type "range", data := .fields #[.int lo t, .int hi u, .int 1 v] }).objs.size, [(s.heap.push { cls := .type "range", data := .fields #[.int lo t, .int hi u, .int 1 v] }).objs.size], _, _, H, rfl,
    I1.kept (t' := tk) fun b o e => Heap.get?_push_of_some _ e, turn_range _ lo (hi - lo).toNat, ?_, fun b hb => ?_, q⟩
  · have e1 : lo + ((0 : Nat) : Int) * 1 = lo := by simp
    have e2 : (((hi - lo).toNat : Nat) : Int) - ((0 : Nat) : Int) = Builtin.Range.rangeSize lo hi 1 := by rw [rangeSize_one]; split <;> omega
    show IsRangeIter _ _ (lo + ((0 : Nat) : Int) * 1) ((((hi - lo).toNat : Nat) : Int) - ((0 : Nat) : Int)) 1
    rw [e1, e2]
    exact Heap.get?_push_size _ rfl
  · have e : b = (s.heap.push { cls := .type "range", data := .fields #[.int lo t, .int hi u, .int 1 v] }).objs.size := by simpa using hb
    subst e
    exact I1.fpOk (Nat.le_refl _) (I1.hok.fresh (Nat.le_refl _))
def iRng1 (ta : TA) : TI := fun σ H R => ta σ H fun vs H1 => ∃ j : Int, vs = [.int j] ∧ -(2 ^ 62) ≤ j ∧ j < 2 ^ 62 ∧ R (Itr 0 j.toNat) H1
def iRng2 (ta : TA) : TI := fun σ H R => ta σ H fun vs H1 => ∃ i j : Int, vs = [.int i, .int j] ∧ (-(2 ^ 62) ≤ i ∧ i < 2 ^ 62 ∧ -(2 ^ 62) ≤ j ∧ j < 2 ^ 62) ∧ R (Itr i (j - i).toNat) H1
theorem pi_range1 {a : Expr} {ta : TA} {p pos : Pos} (hg : Gl X "range") (hm : X.mg "range" = none) (ha : PA X [a] ta) (hs : starEach [a] X.env = [(false, eval a X.env)] := by rfl) : PI X tg (.Call (.Name "range" p) [a] [] pos) (iRng1 ta) := by
  intro pins s σ H R I h
  refine Call_ (ld_blt I hg hm boot_range (PyProof.Rows.callWith_type1 (thn (ha pos pins s σ H _ I h) fun us s1 ⟨vs, H1, I1, r1, q1⟩ => ?_) hs rfl))
  obtain ⟨j, e, q1, q2, q⟩ := q1
  subst e
  cases r1 with
  | cons r rr =>
    cases rr
    obtain ⟨t, rfl⟩ := r
    exact call_range_1 (range_it I1 (by omega) (by omega) q1 q2 (by simpa using q))
theorem pi_range2 {a b : Expr} {ta : TA} {p pos : Pos} (hg : Gl X "range") (hm : X.mg "range" = none) (ha : PA X [a, b] ta) (hs : starEach [a, b] X.env = [(false, eval a X.env), (false, eval b X.env)] := by rfl) (hs2 : starEach [b] X.env = [(false, eval b X.env)] := by rfl) :
    PI X tg (.Call (.Name "range" p) [a, b] [] pos) (iRng2 ta) := by
  intro pins s σ H R I h
  refine Call_ (ld_blt I hg hm boot_range (PyProof.Rows.callWith_type1 (thn (ha pos pins s σ H _ I h) fun us s1 ⟨vs, H1, I1, r1, q1⟩ => ?_) (by rw [hs, hs2]) (by rw [hs2]; rfl)))
  obtain ⟨i, j, e, ⟨q1, q2, q3, q4⟩, q⟩ := q1
  subst e
  cases r1 with
  | cons r rr =>
    cases rr with
    | cons r' rr =>
      cases rr
      obtain ⟨t, rfl⟩ := r
      obtain ⟨t', rfl⟩ := r'
      exact call_range_2 (range_it I1 q1 q2 q3 q4 q)

/-! ### for -/
/-- W: the invariant by the turn and a measure; N: what the body is to reach -/
def tFor (wi : TI) (g : TG) (tb : TS) : TS := fun D σ H => wi σ H fun J H1 => ∃ W : Nat → Nat → St → Hp → Prop, (∃ m, W 0 m σ H1) ∧ ∀ i m σ H, W i m σ H →
  (J.stop i H ∧ D.nx σ H) ∨ (J.go i H ∧ ∃ N : St → Hp → Prop, (∀ σ' H', N σ' H' → ∃ m', m' < m ∧ W (i + 1) m' σ' H') ∧ ∀ x H', J.yld i H x H' → g x σ H' fun σ2 H2 => tb { D with nx := N, ct := N, bk := D.nx } σ2 H2)
/-- the records at fp as they stand -/
def pinsAt (fp : List Addr) (h : Heap) : List (Addr × Obj) := fp.filterMap fun b => (h.get? b).map fun o => (b, o)
theorem mem_pinsAt {fp : List Addr} {h : Heap} {b : Addr} {o : Obj} (hb : b ∈ fp) (e : h.get? b = some o) : (b, o) ∈ pinsAt fp h := List.mem_filterMap.mpr ⟨b, hb, by rw [e]; rfl⟩
theorem of_pinsAt {fp : List Addr} {h : Heap} {p : Addr × Obj} (hp : p ∈ pinsAt fp h) : p.1 ∈ fp ∧ h.get? p.1 = some p.2 := by
  obtain ⟨b, hb, e⟩ := List.mem_filterMap.mp hp
  cases q : h.get? b with
  | none => rw [q] at e; cases e
  | some o =>
    rw [q] at e
    have e' : (b, o) = p := Option.some.inj e
    subst e'
    exact ⟨hb, q⟩
theorem Inv.pinned {pins : List (Addr × Obj)} {σ : St} {H : Hp} {s : Shared} {fp : List Addr} (I : Inv X pins σ H s) (hf : ∀ b ∈ fp, FpOk X pins H b) (ho : ∀ b ∈ fp, ∃ o, s.heap.get? b = some o ∧ ∀ v, o.data ≠ .cell v) : Inv X (pins ++ pinsAt fp s.heap) σ H s :=
  I.pins_of fun p hp => (List.mem_append.mp hp).elim (fun z => I.pin p (List.mem_append_right _ z)) fun z => by
    obtain ⟨hb, e⟩ := of_pinsAt z
    obtain ⟨f0, f1, f2, _⟩ := hf p.1 hb
    obtain ⟨o, e', d⟩ := ho p.1 hb
    rw [e] at e'; cases e'
    exact ⟨e, f0, f1, f2, d⟩
theorem Inv.unpinned {pins pl : List (Addr × Obj)} {σ : St} {H : Hp} {s : Shared} (I : Inv X (pins ++ pl) σ H s) : Inv X pins σ H s := I.pins_of fun p hp => I.pin p (List.mem_append_right _ (List.mem_append_left _ hp))
theorem ps_for {iter : Expr} {body : List Stmt} {wi : TI} {g : TG} {tb : TS} {pos : Pos} (hp : PassesOwn (model X.prog X.w) X.A X.env X.xe) (hc : X.calm = true) (hi : PI X tg iter wi) (hg : PG X tg g) (hb : PSs X body tb)
    (hs : ∀ x, foldedSetIterable iter X.env x = pure x := by intro _; rfl) : PS X (.For tg iter body [] pos) (tFor wi g tb) := by
  intro pins s σ H D I h
  refine wpAny_For (thn (hi pins s σ H _ I h) fun v s1 h1 => thn h1 fun itv s2 h2 => ?_) hs
  obtain ⟨it, fp, tn, J, H2, e, I2, T, st2, f2, W, ⟨m0, w0⟩, turn⟩ := h2
  subst e
  -- what stays true of the iterator's objects through the loop
  have stat : ∀ {H' : Hp}, (∀ b ∈ fp, H' b = none) → ∀ b ∈ fp, FpOk X pins H' b := fun hn b hb => ⟨hn b hb, (f2 b hb).2⟩
  refine codeAny_forLoop_any (fun n s' => ∃ i σ' H', Inv X pins σ' H' s' ∧ tn i s'.heap ∧ (∀ b ∈ fp, H' b = none) ∧ W i n σ' H') ?_ m0 ⟨0, σ, H2, I2, st2, fun b hb => (f2 b hb).1, w0⟩
  rintro n s3 ⟨i, σ3, H3, I3, st3, fr3, w3⟩
  rcases turn i n σ3 H3 w3 with ⟨stop, qn⟩ | ⟨go, N, hN, step⟩
  · refine wpAny_passesOwn hp (thn (T.done X rfl rfl rfl hc i pins s3 σ3 H3 X.xe I3 (stat fr3) st3 stop) fun r s4 ⟨hr, I4⟩ => ?_)
    subst hr
    exact wpAny_execs_nil ⟨σ3, H3, I4, qn⟩
  · refine wpAny_passesOwn hp (thn (T.item X rfl rfl rfl hc i pins s3 σ3 H3 X.xe I3 (stat fr3) st3 go) fun r s4 ⟨u, hr, h4⟩ => ?_)
    subst hr
    refine wpAny_passesOwn hp (thn h4 fun _ s5 ⟨x, H5, I5, r5, y5, st5, fr5⟩ => ?_)
    have I5' := I5.pinned (stat fr5) (T.obj _ _ st5)
    refine wpAny_passesOwn hp (thn (hg _ s5 σ3 H5 x u _ I5' r5 (step x H5 y5)) fun _ s6 ⟨σ6, H6, I6, q6⟩ => ?_)
    refine wpAny_passesOwn hp (thn (hb _ s6 σ6 H6 _ I6 q6) fun f s7 q7 => ?_)
    have again : ∀ {σ7 : St} {H7 : Hp}, Inv X (pins ++ pinsAt fp s5.heap) σ7 H7 s7 → N σ7 H7 → ∃ m, m < n ∧ ∃ i σ' H', Inv X pins σ' H' s7 ∧ tn i s7.heap ∧ (∀ b ∈ fp, H' b = none) ∧ W i m σ' H' := fun {σ7 H7} I7 n7 => by
      obtain ⟨m', hm, w7⟩ := hN σ7 H7 n7
      refine ⟨m', hm, i + 1, σ7, H7, I7.unpinned, T.keep _ _ _ st5 fun b hb o e => (I7.pin (b, o) (List.mem_append_right _ (List.mem_append_right _ (mem_pinsAt hb e)))).1, fun b hb => ?_, w7⟩
      obtain ⟨o, e, d⟩ := T.obj _ _ st5 b hb
      exact (I7.pin (b, o) (List.mem_append_right _ (List.mem_append_right _ (mem_pinsAt hb e)))).2.1
    cases f with
    | next => obtain ⟨σ7, H7, I7, n7⟩ := q7; exact again I7 n7
    | cont => obtain ⟨σ7, H7, I7, n7⟩ := q7; exact again I7 n7
    | brk => obtain ⟨σ7, H7, I7, q7⟩ := q7; exact ⟨σ7, H7, I7.unpinned, q7⟩
    | ret v => obtain ⟨x7, σ7, H7, I7, r7, q7⟩ := q7; exact ⟨x7, σ7, H7, I7.unpinned, r7, q7⟩
end

/-! ### the forms one uses -/
/-- over a list that the body leaves as it is -/
theorem for_list {K : PySem.W.Frag} {a : Addr} {xs : List V} {g : TG} {tb : TS} {D : Ends} {σ : St} {H : Hp} (Pv : Nat → St → Hp → Prop) (h0 : Pv 0 σ H) (hl : ∀ i σ H, i ≤ xs.length → Pv i σ H → SqL K H a xs)
    (hs : ∀ i x σ H, xs[i]? = some x → Pv i σ H → g x σ H fun σ2 H2 => tb { D with nx := Pv (i + 1), ct := Pv (i + 1), bk := D.nx } σ2 H2) (hd : ∀ σ H, Pv xs.length σ H → D.nx σ H) :
    ∃ W : Nat → Nat → St → Hp → Prop, (∃ m, W 0 m σ H) ∧ ∀ i m σ H, W i m σ H →
      ((Itl K a).stop i H ∧ D.nx σ H) ∨ ((Itl K a).go i H ∧ ∃ N : St → Hp → Prop, (∀ σ' H', N σ' H' → ∃ m', m' < m ∧ W (i + 1) m' σ' H') ∧ ∀ x H', (Itl K a).yld i H x H' → g x σ H' fun σ2 H2 => tb { D with nx := N, ct := N, bk := D.nx } σ2 H2) := by
  refine ⟨fun i m σ H => m = xs.length - i ∧ i ≤ xs.length ∧ Pv i σ H, ⟨xs.length, by simp, Nat.zero_le _, h0⟩, ?_⟩
  rintro i m σ H ⟨rfl, hi, p⟩
  have q := hl i σ H hi p
  by_cases hlt : i < xs.length
  · refine .inr ⟨⟨xs, xs[i], q, by simp [hlt]⟩, Pv (i + 1), fun σ' H' p' => ⟨xs.length - (i + 1), by omega, rfl, hlt, p'⟩, fun x H' y => ?_⟩
    obtain ⟨e, y⟩ := y
    subst e
    exact hs i x σ _ (y xs q) p
  · have e : i = xs.length := by omega
    subst e
    exact .inl ⟨⟨xs, q, Nat.le_refl _⟩, hd σ H p⟩
theorem for_tup {K : PySem.W.Frag} {a : Addr} {xs : List V} {g : TG} {tb : TS} {D : Ends} {σ : St} {H : Hp} (Pv : Nat → St → Hp → Prop) (h0 : Pv 0 σ H) (hl : ∀ i σ H, i ≤ xs.length → Pv i σ H → SqT K H a xs)
    (hs : ∀ i x σ H, xs[i]? = some x → Pv i σ H → g x σ H fun σ2 H2 => tb { D with nx := Pv (i + 1), ct := Pv (i + 1), bk := D.nx } σ2 H2) (hd : ∀ σ H, Pv xs.length σ H → D.nx σ H) :
    ∃ W : Nat → Nat → St → Hp → Prop, (∃ m, W 0 m σ H) ∧ ∀ i m σ H, W i m σ H →
      ((Itt K a).stop i H ∧ D.nx σ H) ∨ ((Itt K a).go i H ∧ ∃ N : St → Hp → Prop, (∀ σ' H', N σ' H' → ∃ m', m' < m ∧ W (i + 1) m' σ' H') ∧ ∀ x H', (Itt K a).yld i H x H' → g x σ H' fun σ2 H2 => tb { D with nx := N, ct := N, bk := D.nx } σ2 H2) := by
  refine ⟨fun i m σ H => m = xs.length - i ∧ i ≤ xs.length ∧ Pv i σ H, ⟨xs.length, by simp, Nat.zero_le _, h0⟩, ?_⟩
  rintro i m σ H ⟨rfl, hi, p⟩
  have q := hl i σ H hi p
  by_cases hlt : i < xs.length
  · refine .inr ⟨⟨xs, xs[i], q, by simp [hlt]⟩, Pv (i + 1), fun σ' H' p' => ⟨xs.length - (i + 1), by omega, rfl, hlt, p'⟩, fun x H' y => ?_⟩
    obtain ⟨e, y⟩ := y
    subst e
    exact hs i x σ _ (y xs q) p
  · have e : i = xs.length := by omega
    subst e
    exact .inl ⟨⟨xs, q, Nat.le_refl _⟩, hd σ H p⟩
theorem for_range {lo : Int} {n : Nat} {g : TG} {tb : TS} {D : Ends} {σ : St} {H : Hp} (Pv : Nat → St → Hp → Prop) (h0 : Pv 0 σ H)
    (hs : ∀ i σ H, i < n → Pv i σ H → g (.int (lo + i)) σ H fun σ2 H2 => tb { D with nx := Pv (i + 1), ct := Pv (i + 1), bk := D.nx } σ2 H2) (hd : ∀ σ H, Pv n σ H → D.nx σ H) :
    ∃ W : Nat → Nat → St → Hp → Prop, (∃ m, W 0 m σ H) ∧ ∀ i m σ H, W i m σ H →
      ((Itr lo n).stop i H ∧ D.nx σ H) ∨ ((Itr lo n).go i H ∧ ∃ N : St → Hp → Prop, (∀ σ' H', N σ' H' → ∃ m', m' < m ∧ W (i + 1) m' σ' H') ∧ ∀ x H', (Itr lo n).yld i H x H' → g x σ H' fun σ2 H2 => tb { D with nx := N, ct := N, bk := D.nx } σ2 H2) := by
  refine ⟨fun i m σ H => m = n - i ∧ i ≤ n ∧ Pv i σ H, ⟨n, by simp, Nat.zero_le _, h0⟩, ?_⟩
  rintro i m σ H ⟨rfl, hi, p⟩
  by_cases hlt : i < n
  · refine .inr ⟨hlt, Pv (i + 1), fun σ' H' p' => ⟨n - (i + 1), by omega, rfl, hlt, p'⟩, fun x H' y => ?_⟩
    obtain ⟨e, y⟩ := y
    subst e y
    exact hs i σ _ hlt p
  · have e : i = n := by omega
    subst e
    exact .inl ⟨Nat.le_refl _, hd σ H p⟩
end L2

namespace L2
open PySem PySem.Spec PyProof.Rows

abbrev R2 := V → V → Hp → VK → Prop
/-- a two-place operation on values: f is binaryOp op, inplaceOp op or compareOp op -/
def OpR (X : Cx) (f : Value → Value → Sem Value) (r : R2) : Prop :=
  ∀ (pins : List (Addr × Obj)) (s : Shared) (σ : St) (H : Hp) (x y : V) (v u : Value) (Q : VK), Inv X pins σ H s → RelV x v → RelV y u → r x y H Q →
    wpAny (model X.prog X.w) X.A (f v u) (EP X pins σ Q) X.xe s
/-- a one-place operation -/
def UnR (X : Cx) (f : Value → Sem Value) (r : V → Hp → VK → Prop) : Prop :=
  ∀ (pins : List (Addr × Obj)) (s : Shared) (σ : St) (H : Hp) (x : V) (v : Value) (Q : VK), Inv X pins σ H s → RelV x v → r x H Q →
    wpAny (model X.prog X.w) X.A (f v) (EP X pins σ Q) X.xe s
/-- a call of a value that is known (a builtin, a type) with values -/
def CallR (X : Cx) (f : Value) (r : List V → Hp → VK → Prop) : Prop :=
  ∀ (pins : List (Addr × Obj)) (s : Shared) (σ : St) (H : Hp) (xs : List V) (us : List Value) (Q : VK), Inv X pins σ H s → Vals xs us → r xs H Q →
    wpAny (model X.prog X.w) X.A (call f us) (EP X pins σ Q) X.xe s
/-- a value's truth -/
def TruR (X : Cx) (r : V → Hp → (Bool → Hp → Prop) → Prop) : Prop :=
  ∀ (pins : List (Addr × Obj)) (s : Shared) (σ : St) (H : Hp) (x : V) (v : Value) (Q : Bool → Hp → Prop), Inv X pins σ H s → RelV x v → r x H Q →
    wpAny (model X.prog X.w) X.A (truthy v) (TP X pins σ Q) X.xe s

def tOp (r : R2) (ta tb : TE) : TE := fun σ H Q => ta σ H fun x H1 => tb σ H1 fun y H2 => r x y H2 Q
def tUn (r : V → Hp → VK → Prop) (ta : TE) : TE := fun σ H Q => ta σ H fun x H1 => r x H1 Q
/-- ints in, under C, and a value out -/
def rI (C : Int → Int → Prop) (g : Int → Int → V) : R2 := fun x y H Q => ∃ i j, x = .int i ∧ y = .int j ∧ C i j ∧ Q (g i j) H
def rI0 (g : Int → Int → V) : R2 := fun x y H Q => ∃ i j, x = .int i ∧ y = .int j ∧ Q (g i j) H
def rU (g : Int → V) : V → Hp → VK → Prop := fun x H Q => ∃ i, x = .int i ∧ Q (g i) H

section
variable {X : Cx} {a b c : Expr} {ta tb tc : TE} {pos : Pos}

theorem binT (ha : PE X a ta) (hb : PE X b tb) {pins : List (Addr × Obj)} {s : Shared} {σ : St} {H : Hp} {R : V → V → Hp → Prop} (I : Inv X pins σ H s)
    (h : ta σ H fun x H1 => tb σ H1 fun y H2 => R x y H2) {Q : Value → Shared → Prop} {f : Value → Value → Sem Value}
    (hf : ∀ v u s2 x y H2, Inv X pins σ H2 s2 → RelV x v → RelV y u → R x y H2 → wpAny (model X.prog X.w) X.A (f v u) Q X.xe s2) :
    wpAny (model X.prog X.w) X.A (eval a X.env) (fun v s₁ => wpAny (model X.prog X.w) X.A (eval b X.env) (fun u s₂ => wpAny (model X.prog X.w) X.A (f v u) Q X.xe s₂) X.xe s₁) X.xe s := by
  refine thn (ha pins s σ H _ I h) fun v s1 ⟨x, H1, I1, r1, q1⟩ => ?_
  refine thn (hb pins s1 σ H1 _ I1 q1) fun u s2 ⟨y, H2, I2, r2, q2⟩ => ?_
  exact hf v u s2 x y H2 I2 r1 r2 q2

theorem pe_op {op : Operator} {r : R2} (ho : OpR X (binaryOp op) r) (ha : PE X a ta) (hb : PE X b tb) : PE X (.BinOp a op b pos) (tOp r ta tb) := by
  intro pins s σ H Q I h
  exact wpAny_BinOp (binT ha hb I h fun v u s2 x y H2 I2 rx ry q => ho pins s2 σ H2 x y v u Q I2 rx ry q)
theorem pe_un {op : UnaryOp} {r : V → Hp → VK → Prop} (ho : UnR X (unaryOp op) r) (ha : PE X a ta) : PE X (.UnaryOp op a pos) (tUn r ta) := by
  intro pins s σ H Q I h
  exact UnaryOp_ (thn (ha pins s σ H _ I h) fun v s1 ⟨x, H1, I1, r1, q1⟩ => ho pins s1 σ H1 x v Q I1 r1 q1)
/-! ### ints -/
theorem opI {f : Value → Value → Sem Value} {C : Int → Int → Prop} {g : Int → Int → Int}
    (rule : ∀ (i j : Int) (t u : Tok) (s : Shared) (Q : Value → Shared → Prop) (E : Value → Shared → Prop), C i j → Q (.int (g i j) s.toks) { s with toks := s.toks + 1 } → wpAny (model X.prog X.w) X.A (f (.int i t) (.int j u)) Q E s) :
    OpR X f (rI C fun i j => .int (g i j)) := by
  intro pins s σ H x y v u Q I rx ry h
  obtain ⟨i, j, rfl, rfl, hc, q⟩ := h
  obtain ⟨t, rfl⟩ := rx
  obtain ⟨t', rfl⟩ := ry
  exact rule i j t t' s _ _ hc ⟨.int (g i j), H, I.tok _, ⟨_, rfl⟩, q⟩
theorem opI0 {f : Value → Value → Sem Value} {g : Int → Int → Int}
    (rule : ∀ (i j : Int) (t u : Tok) (s : Shared) (Q : Value → Shared → Prop) (E : Value → Shared → Prop), Q (.int (g i j) s.toks) { s with toks := s.toks + 1 } → wpAny (model X.prog X.w) X.A (f (.int i t) (.int j u)) Q E s) :
    OpR X f (rI0 fun i j => .int (g i j)) := by
  intro pins s σ H x y v u Q I rx ry h
  obtain ⟨i, j, rfl, rfl, q⟩ := h
  obtain ⟨t, rfl⟩ := rx
  obtain ⟨t', rfl⟩ := ry
  exact rule i j t t' s _ _ ⟨.int (g i j), H, I.tok _, ⟨_, rfl⟩, q⟩
theorem opB0 {f : Value → Value → Sem Value} {g : Int → Int → Bool}
    (rule : ∀ (i j : Int) (t u : Tok) (s : Shared) (Q : Value → Shared → Prop) (E : Value → Shared → Prop), Q (.bool (g i j)) s → wpAny (model X.prog X.w) X.A (f (.int i t) (.int j u)) Q E s) :
    OpR X f (rI0 fun i j => .bl (g i j)) := by
  intro pins s σ H x y v u Q I rx ry h
  obtain ⟨i, j, rfl, rfl, q⟩ := h
  obtain ⟨t, rfl⟩ := rx
  obtain ⟨t', rfl⟩ := ry
  exact rule i j t t' s _ _ ⟨.bl (g i j), H, I, rfl, q⟩

def CDiv (i j : Int) : Prop := 0 < j ∧ j < 1073741824
def CPow (i j : Int) : Prop := 0 ≤ j ∧ j ≤ 1000000 ∧ i.natAbs < 2 ^ 64
def CMul (i j : Int) : Prop := (-(2 ^ 64) < i ∧ i < 2 ^ 64) ∨ (-(2 ^ 64) < j ∧ j < 2 ^ 64)
theorem CMul.ok {i j : Int} (h : CMul i j) : IntMulOk i j := by
  rcases h with ⟨h1, h2⟩ | ⟨h1, h2⟩
  · exact .of_left (intBits_le_64 h1 h2)
  · exact .of_right (intBits_le_64 h1 h2)
theorem two_pow_nn (k : Nat) : (0 : Int) ≤ 2 ^ k := by
  rw [two_pow_cast]
  exact Int.natCast_nonneg _

theorem op_add : OpR X (binaryOp .Add) (rI0 fun i j => .int (i + j)) := opI0 fun _ _ _ _ _ _ _ q => add_int q
theorem op_sub : OpR X (binaryOp .Sub) (rI0 fun i j => .int (i - j)) := opI0 fun _ _ _ _ _ _ _ q => sub_int q
theorem op_mul : OpR X (binaryOp .Mult) (rI CMul fun i j => .int (i * j)) := opI fun _ _ _ _ _ _ _ hc q => mul_int q hc.ok
/-- // by a positive divisor -/
theorem op_fdiv : OpR X (binaryOp .FloorDiv) (rI CDiv fun i j => .int (i / j)) := opI fun i j _ _ _ _ _ hc q => by
  have h1 : (0 : Int) < j := hc.1
  have h2 : j < 1073741824 := hc.2
  exact floordiv_int (by omega) (by rw [Int.fdiv_eq_ediv_of_nonneg i (by omega)]; exact q) (.inl (PyProof.noPylong_small (by omega)))
/-- % by a positive divisor of any size -/
theorem op_mod : OpR X (binaryOp .Mod) (rI (fun _ j => 0 < j) fun i j => .int (i % j)) := opI fun i j _ _ _ _ _ hc q => by
  have h1 : (0 : Int) < j := hc
  exact mod_int' (by omega) (by rw [Int.fmod_eq_emod_of_nonneg i (by omega)]; exact q)
theorem op_shr : OpR X (binaryOp .RShift) (rI (fun _ j => 0 ≤ j) fun i j => .int (i / 2 ^ j.toNat)) := opI fun i j _ _ _ _ _ hc q =>
  rshift_int hc (by rw [Int.fdiv_eq_ediv_of_nonneg i (two_pow_nn _)]; exact q)
theorem op_and : OpR X (binaryOp .BitAnd) (rI0 fun i j => .int (Builtin.bitAnd i j)) := opI0 fun _ _ _ _ _ _ _ q => and_int q
theorem op_or : OpR X (binaryOp .BitOr) (rI0 fun i j => .int (Builtin.bitOr i j)) := opI0 fun _ _ _ _ _ _ _ q => or_int q
theorem op_xor : OpR X (binaryOp .BitXor) (rI0 fun i j => .int (Builtin.bitXor i j)) := opI0 fun _ _ _ _ _ _ _ q => xor_int q

theorem unI {f : Value → Sem Value} {g : Int → Int}
    (rule : ∀ (i : Int) (t : Tok) (s : Shared) (Q : Value → Shared → Prop) (E : Value → Shared → Prop), Q (.int (g i) s.toks) { s with toks := s.toks + 1 } → wpAny (model X.prog X.w) X.A (f (.int i t)) Q E s) :
    UnR X f (rU fun i => .int (g i)) := by
  intro pins s σ H x v Q I rx h
  obtain ⟨i, rfl, q⟩ := h
  obtain ⟨t, rfl⟩ := rx
  exact rule i t s _ _ ⟨.int (g i), H, I.tok _, ⟨_, rfl⟩, q⟩
theorem un_neg : UnR X (unaryOp .USub) (rU fun i => .int (-i)) := unI fun _ _ _ _ _ q => neg_int q
/-! ### bools among ints: n += (a < b) -/
end

/-! ### comparisons -/
/-- the scalars that == tells apart as data does -/
def scal : V → V → Bool
  | .non, .non => true | .non, .int _ => true | .int _, .non => true | .non, .bl _ => true | .bl _, .non => true | .non, .str _ => true | .str _, .non => true
  | .int _, .int _ => true | .bl _, .bl _ => true | .str _, .str _ => true | .byt _, .byt _ => true
  | .int _, .str _ => true | .str _, .int _ => true | .bl _, .str _ => true | .str _, .bl _ => true
  | _, _ => false
def rEq : R2 := fun x y H Q => scal x y = true ∧ Q (.bl (decide (x = y))) H
def rNe : R2 := fun x y H Q => scal x y = true ∧ Q (.bl (!decide (x = y))) H

theorem dec_int {i j : Int} : decide (V.int i = V.int j) = (i == j) := by
  rw [Bool.eq_iff_iff]
  simp
theorem dec_bl {i j : Bool} : decide (V.bl i = V.bl j) = (i == j) := by
  rw [Bool.eq_iff_iff]
  simp
theorem dec_str {i j : Str} : decide (V.str i = V.str j) = (i == j) := by
  rw [Bool.eq_iff_iff]
  simp
theorem dec_byt {i j : Array UInt8} : decide (V.byt i = V.byt j) = (i.toList == j.toList) := by
  rw [Bool.eq_iff_iff]
  cases i
  cases j
  simp

section
variable {X : Cx} {a b c : Expr} {ta tb tc : TE} {pos : Pos}
theorem fin_bl {pins : List (Addr × Obj)} {σ : St} {H : Hp} {s : Shared} {Q : VK} {k k' : Bool} (I : Inv X pins σ H s) (q : Q (.bl k) H) (e : k = k') : EP X pins σ Q (.bool k') s := by
  subst e
  exact ⟨.bl k, H, I, rfl, q⟩
theorem op_eq : OpR X (compareOp .Eq) rEq := by
  intro pins s σ H x y v u Q I rx ry h
  obtain ⟨hs, q⟩ := h
  cases x with
  | non =>
    cases rx
    cases y with
    | non => cases ry; exact PySem.EqNone.eq_none_none (fin_bl I q (by simp))
    | bl j => cases ry; exact PySem.EqNone.eq_none_bool (fin_bl I q (by simp))
    | int j => obtain ⟨t', rfl⟩ := ry; exact PySem.EqNone.eq_none_int (fin_bl I q (by simp))
    | str j => obtain ⟨t', rfl⟩ := ry; exact PySem.EqNone.eq_none_str (fin_bl I q (by simp))
    | _ => exact absurd (show false = true from hs) Bool.false_ne_true
  | bl i =>
    cases rx
    cases y with
    | non => cases ry; exact PySem.EqNone.eq_bool_none (fin_bl I q (by simp))
    | bl j => cases ry; exact eq_bool (fin_bl I q dec_bl)
    | str j => obtain ⟨t', rfl⟩ := ry; exact PySem.EqMixed.eq_bool_str (fin_bl I q (by simp))
    | _ => exact absurd (show false = true from hs) Bool.false_ne_true
  | int i =>
    obtain ⟨t, rfl⟩ := rx
    cases y with
    | non => cases ry; exact PySem.EqNone.eq_int_none (fin_bl I q (by simp))
    | int j => obtain ⟨t', rfl⟩ := ry; exact eq_int (fin_bl I q dec_int)
    | str j => obtain ⟨t', rfl⟩ := ry; exact PySem.EqMixed.eq_int_str (fin_bl I q (by simp))
    | _ => exact absurd (show false = true from hs) Bool.false_ne_true
  | str i =>
    obtain ⟨t, rfl⟩ := rx
    cases y with
    | non => cases ry; exact PySem.EqNone.eq_str_none (fin_bl I q (by simp))
    | bl j => cases ry; exact PySem.EqMixed.eq_str_bool (fin_bl I q (by simp))
    | int j => obtain ⟨t', rfl⟩ := ry; exact PySem.EqMixed.eq_str_int (fin_bl I q (by simp))
    | str j => obtain ⟨t', rfl⟩ := ry; exact eq_str (fin_bl I q dec_str)
    | _ => exact absurd (show false = true from hs) Bool.false_ne_true
  | byt i =>
    obtain ⟨t, rfl⟩ := rx
    cases y with
    | byt j => obtain ⟨t', rfl⟩ := ry; exact PySem.W.eq_bytes (fin_bl I q dec_byt)
    | _ => exact absurd (show false = true from hs) Bool.false_ne_true
  | _ => cases y <;> exact absurd (show false = true from hs) Bool.false_ne_true
theorem op_ne : OpR X (compareOp .NotEq) rNe := by
  intro pins s σ H x y v u Q I rx ry h
  obtain ⟨hs, q⟩ := h
  cases x with
  | non =>
    cases rx
    cases y with
    | non => cases ry; exact PySem.EqNone.ne_none_none (fin_bl I q (by simp))
    | bl j => cases ry; exact PySem.EqNone.ne_none_bool (fin_bl I q (by simp))
    | int j => obtain ⟨t', rfl⟩ := ry; exact PySem.EqNone.ne_none_int (fin_bl I q (by simp))
    | str j => obtain ⟨t', rfl⟩ := ry; exact PySem.EqNone.ne_none_str (fin_bl I q (by simp))
    | _ => exact absurd (show false = true from hs) Bool.false_ne_true
  | bl i =>
    cases rx
    cases y with
    | non => cases ry; exact PySem.EqNone.ne_bool_none (fin_bl I q (by simp))
    | bl j => cases ry; exact ne_bool (fin_bl I q (congrArg not dec_bl))
    | str j => obtain ⟨t', rfl⟩ := ry; exact PySem.EqMixed.ne_bool_str (fin_bl I q (by simp))
    | _ => exact absurd (show false = true from hs) Bool.false_ne_true
  | int i =>
    obtain ⟨t, rfl⟩ := rx
    cases y with
    | non => cases ry; exact PySem.EqNone.ne_int_none (fin_bl I q (by simp))
    | int j => obtain ⟨t', rfl⟩ := ry; exact ne_int (fin_bl I q (congrArg not dec_int))
    | str j => obtain ⟨t', rfl⟩ := ry; exact PySem.EqMixed.ne_int_str (fin_bl I q (by simp))
    | _ => exact absurd (show false = true from hs) Bool.false_ne_true
  | str i =>
    obtain ⟨t, rfl⟩ := rx
    cases y with
    | non => cases ry; exact PySem.EqNone.ne_str_none (fin_bl I q (by simp))
    | bl j => cases ry; exact PySem.EqMixed.ne_str_bool (fin_bl I q (by simp))
    | int j => obtain ⟨t', rfl⟩ := ry; exact PySem.EqMixed.ne_str_int (fin_bl I q (by simp))
    | str j => obtain ⟨t', rfl⟩ := ry; exact ne_str (fin_bl I q (congrArg not dec_str))
    | _ => exact absurd (show false = true from hs) Bool.false_ne_true
  | byt i =>
    obtain ⟨t, rfl⟩ := rx
    cases y with
    | byt j => obtain ⟨t', rfl⟩ := ry; exact PySem.W.ne_bytes (fin_bl I q (congrArg not dec_byt))
    | _ => exact absurd (show false = true from hs) Bool.false_ne_true
  | _ => cases y <;> exact absurd (show false = true from hs) Bool.false_ne_true

theorem op_lt : OpR X (compareOp .Lt) (rI0 fun i j => .bl (decide (i < j))) := opB0 fun _ _ _ _ _ _ _ q => lt_int q
theorem op_le : OpR X (compareOp .LtE) (rI0 fun i j => .bl (decide (i ≤ j))) := opB0 fun _ _ _ _ _ _ _ q => le_int q
/-- is None, is not None: the right side a value none -/
theorem op_isN : OpR X (compareOp .Is) (fun x y H Q => y = .non ∧ Q (.bl (decide (x = .non))) H) := by
  intro pins s σ H x y v u Q I rx ry h
  obtain ⟨rfl, q⟩ := h
  cases ry
  refine is_none_gen (fin_bl I q ?_)
  cases x <;> first
    | (cases rx; rfl)
    | (obtain ⟨t, rfl⟩ := rx; rfl)
/-- two rules for one operation: by cases -/
theorem OpR.or {f : Value → Value → Sem Value} {r r' : R2} (h : OpR X f r) (h' : OpR X f r') : OpR X f (fun x y H Q => r x y H Q ∨ r' x y H Q) := by
  intro pins s σ H x y v u Q I rx ry q
  rcases q with q | q
  · exact h pins s σ H x y v u Q I rx ry q
  · exact h' pins s σ H x y v u Q I rx ry q

theorem nomark (b : Expr) {op : CmpOp} (h : op ≠ .In := by decide) (h2 : op ≠ .NotIn := by decide) : behindInMarks op b = false := by
  have e1 : (op == CmpOp.In) = false := by cases op <;> first | rfl | exact absurd rfl h
  have e2 : (op == CmpOp.NotIn) = false := by cases op <;> first | rfl | exact absurd rfl h2
  cases b <;> simp [behindInMarks, e1, e2]
/-- a comparison as a value; hm: nomark b, or (for in, not in) by with_unfolding_all rfl -/
theorem pe_cmpR {op : CmpOp} {r : R2} (ho : OpR X (compareOp op) r) (ha : PE X a ta) (hb : PE X b tb) (hm : behindInMarks op b = false) : PE X (.Compare a [op] [b] pos) (tOp r ta tb) := by
  intro pins s σ H Q I h
  exact wpAny_Compare1 (binT ha hb I h fun v u s2 x y H2 I2 rx ry q => ho pins s2 σ H2 x y v u Q I2 rx ry q) hm
/-- a reading of a value as a test -/
def tTest (t : TE) : TT := fun σ H Q => t σ H fun x H' => ∃ k, x = .bl k ∧ Q k H'
theorem pt_cmpR {op : CmpOp} {r : R2} (ho : OpR X (compareOp op) r) (ha : PE X a ta) (hb : PE X b tb) (hm : behindInMarks op b = false) : PT X (.Compare a [op] [b] pos) (tTest (tOp r ta tb)) := by
  intro pins s σ H Q I h
  refine wpAny_isTrue_Compare1 (thn (ha pins s σ H _ I h) fun v s1 ⟨x, H1, I1, r1, q1⟩ => thn (hb pins s1 σ H1 _ I1 q1) fun u s2 ⟨y, H2, I2, r2, q2⟩ =>
    thn (ho pins s2 σ H2 x y v u _ I2 r1 r2 q2) fun c s3 ⟨z, H3, I3, r3, k, e, q3⟩ => ?_) hm
  subst e
  cases r3
  exact wpAny_truthy_bool ⟨H3, I3, q3⟩
/-- a op1 b op2 c -/
def tChain (r r' : R2) (ta tb tc : TE) : TE := fun σ H Q => ta σ H fun x H1 => tb σ H1 fun y H2 => r x y H2 fun z H3 => ∃ k, z = .bl k ∧
  (if k = true then tc σ H3 fun w' H4 => r' y w' H4 Q else Q (.bl false) H3)
theorem pt_chain {op op' : CmpOp} {r r' : R2} (ho : OpR X (compareOp op) r) (ho' : OpR X (compareOp op') r') (ha : PE X a ta) (hb : PE X b tb) (hc : PE X c tc)
    (hm : lastMarks [op, op'] [b, c] = false := by with_unfolding_all rfl) : PT X (.Compare a [op, op'] [b, c] pos) (tTest (tChain r r' ta tb tc)) := by
  intro pins s σ H Q I h
  refine isTrue_chain (thn (ha pins s σ H _ I h) fun v s1 ⟨x, H1, I1, r1, q1⟩ => test_link (thn (hb pins s1 σ H1 _ I1 q1) fun u s2 ⟨y, H2, I2, r2, q2⟩ =>
    thn (ho pins s2 σ H2 x y v u _ I2 r1 r2 q2) fun d s3 ⟨z, H3, I3, r3, k, e, q3⟩ => ?_)) hm
  subst e
  cases r3
  refine wpAny_truthy_bool ?_
  cases k with
  | false =>
    obtain ⟨k', e', q'⟩ := q3
    cases e'
    exact ite_ff ⟨H3, I3, q'⟩
  | true =>
    refine ite_tt (test_last (thn (hc pins s3 σ H3 _ I3 q3) fun w' s4 ⟨z', H4, I4, r4, q4⟩ => thn (ho' pins s4 σ H4 y z' u w' _ I4 r2 r4 q4) fun d' s5 ⟨z2, H5, I5, r5, k2, e2, q5⟩ => ?_))
    subst e2
    cases r5
    exact wpAny_truthy_bool ⟨H5, I5, q5⟩

/-! ### truth -/
/-- a value's truth by the abstract heap -/
def TruV (K : PySem.W.Frag) (x : V) (H : Hp) (k : Bool) : Prop :=
  match x with
  | .non => k = false
  | .bl b => k = b
  | .int i => k = (i != 0)
  | .str y => y.length ≤ sizeLine ∧ k = ((y.length : Int) != 0)
  | .byt y => y.size ≤ sizeLine ∧ k = ((y.size : Int) != 0)
  | .ref p => (∃ xs, SqL K H p xs ∧ k = !xs.isEmpty) ∨ (∃ xs, SqT K H p xs ∧ k = !xs.isEmpty) ∨ ∃ kvs, H p = some (.dK kvs) ∧ k = !kvs.isEmpty
  | _ => False
theorem isEmpty_kv {κ : Type} {kvs : List (κ × V)} {vs : List (κ × Value)} (r : KV kvs vs) : (!vs.isEmpty) = !kvs.isEmpty := by
  cases r <;> rfl
theorem isEmpty_of {xs : List V} {its : List Value} (r : Vals xs its) : (!its.toArray.isEmpty) = !xs.isEmpty := by
  cases r <;> simp
theorem line63 : (sizeLine : Nat) < 2 ^ 63 := by rw [sizeLine_eq]; decide
theorem tru_ok : TruR X (fun x H Q => ∃ k, TruV X.K x H k ∧ Q k H) := by
  intro pins s σ H x v Q I rx h
  obtain ⟨k, e, q⟩ := h
  have hl := line63
  have hs : sizeLine = 16777216 := sizeLine_eq
  cases x with
  | non =>
    cases rx
    have e' : k = false := e
    subst e'
    exact truthy_none ⟨H, I, q⟩
  | bl b =>
    cases rx
    have e' : k = b := e
    subst e'
    exact wpAny_truthy_bool ⟨H, I, q⟩
  | int i =>
    obtain ⟨t, rfl⟩ := rx
    have e' : k = (i != 0) := e
    subst e'
    exact PySem.P.truthy_int ⟨H, I, q⟩
  | str y =>
    obtain ⟨t, rfl⟩ := rx
    obtain ⟨hy, e'⟩ : y.length ≤ sizeLine ∧ k = ((y.length : Int) != 0) := e
    subst e'
    exact PySem.P.truthy_str (by omega) ⟨H, I.tok _, q⟩
  | byt y =>
    obtain ⟨t, rfl⟩ := rx
    obtain ⟨hy, e'⟩ : y.size ≤ sizeLine ∧ k = ((y.size : Int) != 0) := e
    subst e'
    exact PySem.W.truthy_bytes (by omega) ⟨H, I.tok _, q⟩
  | ref p =>
    cases rx
    have e' : (∃ xs, SqL X.K H p xs ∧ k = !xs.isEmpty) ∨ (∃ xs, SqT X.K H p xs ∧ k = !xs.isEmpty) ∨ ∃ kvs, H p = some (.dK kvs) ∧ k = !kvs.isEmpty := e
    rcases e' with ⟨xs, hx, e'⟩ | ⟨xs, hx, e'⟩ | ⟨kvs, hx, e'⟩
    · subst e'
      obtain ⟨its, r, pl, hz⟩ := I.list hx
      have hlen := r.length
      exact wpAny_truthy_list pl.isList (by simp only [List.size_toArray]; omega) ⟨H, I.tok _, by rw [isEmpty_of r]; exact q⟩
    · subst e'
      obtain ⟨its, r, pl, hz⟩ := I.tuple hx
      have hlen := r.length
      exact truthy_tuple pl (by simp only [List.size_toArray]; omega) ⟨H, I.tok _, by rw [isEmpty_of r]; exact q⟩
    · subst e'
      obtain ⟨hz, hS, vs, r, m⟩ : kvs.length ≤ sizeLine ∧ (p == sysModules) = false ∧ ∃ vs, KV kvs vs ∧ s.heap.DictOf (mixKind X.prog X.w) p vs := I.hok p _ hx
      have hlen : kvs.length = vs.length := Paired.length r
      exact wpAny_truthy_dict hS m (by omega) ⟨H, I.tok _, by rw [isEmpty_kv r]; exact q⟩
  | _ => exact (show False from e).elim
/-- any expression whose test is its value's truth (a name, a call, a subscript, a field ..: he by fun _ => rfl) -/
theorem pt_truth (ha : PE X a ta) (he : ∀ whole, isTrue a X.env whole = (do let v ← whole; standAt a.pos; holding [v] (truthy v))) :
    PT X a (fun σ H Q => ta σ H fun x H' => ∃ k, TruV X.K x H' k ∧ Q k H') := by
  intro pins s σ H Q I h
  exact isTrue_plain (thn (ha pins s σ H _ I h) fun v s1 ⟨x, H1, I1, r1, q1⟩ => tru_ok pins s1 σ H1 x v Q I1 r1 q1) (he _)

/-! ### strs and bytes -/
/-! ### scalar builtins, by CallR -/
theorem vals1 {x : V} {us : List Value} (r : Vals [x] us) : ∃ u, us = [u] ∧ RelV x u := by
  cases r with
  | cons r1 r2 => cases r2; exact ⟨_, rfl, r1⟩
end
end L2

namespace L2
open PySem PySem.Spec PyProof.Rows

/-! ### an instance, its attributes a map -/
structure ObjM (h : Heap) (x dx C : Addr) (mA : Str → Option Value) : Prop where
  obj : h.get? x = some (PySem.W.instObj C dx)
  ns : h.Ns1 dx mA
  ne : dx ≠ x

theorem lookIn_ns {h : Heap} {dx : Addr} {mA : Str → Option Value} (n : h.Ns1 dx mA) : ∃ od, h.get? dx = some od ∧ ∀ name, PySem.W.lookIn name od = some (mA name) := by
  obtain ⟨o, es, ep, ho, hd, hk, _, hm⟩ := n
  refine ⟨o, ho, fun name => ?_⟩
  have e := hm name
  unfold nsFind findBy at e
  rw [← Array.find?_toList] at e
  unfold PySem.W.lookIn
  rw [hd]
  dsimp only
  split
  · rename_i y q
    rw [q] at e
    exact congrArg some e
  · rename_i q
    rw [q] at e
    have a : es.toList.any (·.refKey) = false := by
      rw [List.any_eq_false]
      intro y hy
      obtain ⟨z, t, hkey⟩ := hk y (Array.mem_toList_iff.mp hy)
      simp [DictEntry.refKey, hkey]
    have a' : ¬ es.toList.any (·.refKey) = true := by rw [a]; exact Bool.false_ne_true
    rw [if_neg a']
    exact congrArg some e

theorem ObjM.look {h : Heap} {x dx C : Addr} {mA : Str → Option Value} (I : ObjM h x dx C mA) : ∃ od, PySem.W.InstAt h x (PySem.W.instObj C dx) C (some od) ∧ ∀ name, PySem.W.lookIn name od = some (mA name) :=
  let ⟨od, ho, hl⟩ := lookIn_ns I.ns
  ⟨od, ⟨I.obj, rfl, rfl, ho⟩, hl⟩

section
variable {prog : Program} {w : World} {A : Around} {E : Value → Shared → Prop} {s : Shared} {K : PySem.W.Frag} {x dx C f : Addr} {mA : Str → Option Value} {name : Str} {v : Value}

theorem get_map {expr : Bool} {Q : Value → Shared → Prop} (X : K.In s.heap) (I : ObjM s.heap x dx C mA) (hg : PySem.W.plainGet K C name = true) (hh : PySem.W.hasDictIn K C = true)
    (ha : PySem.W.findIn K (.ref C) name = some none) (hv : mA name = some v) (hv' : PySem.W.handedIn v = true) (h : Q v { s with toks := s.toks + 1 }) :
    wpAny (model prog w) A (getAttr (.ref x) name expr) Q E s := by
  obtain ⟨od, J, hl⟩ := I.look
  exact PySem.W.get_value X J (PySem.W.plainGet_of hg).1 (PySem.W.findObj_own hh ha rfl (by rw [hl, hv])) hv' h

theorem get_meth {pl : Sem Bool} {Q : Value × List Value → Shared → Prop} (X : K.In s.heap) (I : ObjM s.heap x dx C mA) (hg : PySem.W.plainGet K C name = true)
    (hf : PySem.W.findIn K (.ref C) name = some (some (.ref f))) (ht : PySem.W.isFn K (.ref f) = true) (hv : mA name = none) (h : Q (.ref f, [.ref x]) s) :
    wpAny (model prog w) A (getMethod (.ref x) name pl) Q E s := by
  obtain ⟨od, J, hl⟩ := I.look
  exact PySem.W.method_fn X J (PySem.W.plainGet_of hg).1 (PySem.W.plainGet_of hg).2 hf (beq_iff_eq.mp ht) (by show (PySem.W.lookIn name od).map (·.isSome) = some false; rw [hl, hv]; rfl) h

theorem set_map {ns : List Str} {Q : Unit → Shared → Prop} (X : K.In s.heap) (I : ObjM s.heap x dx C mA)
    (hs : PySem.W.findIn K (.ref C) "__setattr__" = some (some (.builtin "object.__setattr__"))) (hp : PySem.W.plainOver K C = true) (ht : PySem.W.takerIn K C name = some none) (hh : PySem.W.hasDictIn K C = true)
    (hw : PySem.Within mA ns) (hsz : ns.length ≤ sizeLine)
    (h : ∀ h', ObjM h' x dx C (fun y => if y = name then some v else mA y) → Heap.SameBut dx s.heap h' → Q () { s with heap := h', toks := s.toks + 2 }) :
    wpAny (model prog w) A (setAttr (.ref x) name v) Q E s := by
  obtain ⟨od, J, hl⟩ := I.look
  refine PySem.W.set_plain X J hs (PySem.W.osa_open (s := { s with toks := s.toks + 1 }) (r := none) X J hp ht fun b => ?_)
  obtain ⟨cd, hc, hd'⟩ := PySem.W.any_some hh
  have hx : s.heap.get? x = some ⟨.ref C, some dx, .plain, #[]⟩ := I.obj
  refine wpAny_bind (wpAny_pure (wpAny_bind (wpAny_bind (wpAny_loadPart hx (wpAny_bind (PySem.W.Looks.here (s := { s with toks := s.toks + 1 }) (PySem.W.looks_clsIn X hc) ?_))))))
  rw [hd']
  refine wpAny_pure (a := some dx) (wpAny_bind (wpAny_pure (wpAny_bind ?_)))
  refine wpAny_nsSet1 (s := { s with toks := s.toks + 1 }) I.ns fun h' hn2 hs2 => ?_
  obtain ⟨oD, esD, epD, hoD, hdD, hcD⟩ := hn2.count (PySem.Within.cons name v hw)
  refine wpAny_bind (wpAny_lookBehind hoD (by rw [hdD]; exact pastItsLine_dict (Nat.le_trans hcD (by rw [List.length_cons]; omega))) ?_)
  exact wpAny_pure (h _ ⟨(hs2.2 _ (Ne.symm I.ne)).trans I.obj, hn2, I.ne⟩ hs2)

/-- C(..): the dict at the heap's end, the instance behind it; then its __init__ -/
theorem make_map {R : Result → Shared → Prop} {vs : List Value} {kw : List (Str × Value)} (X : K.In s.heap) (hm : PySem.W.makesIn K C = true)
    (hi : PySem.W.findIn K (.ref C) "__init__" = some (some (.ref f))) (hf : PySem.W.typeIn K (.ref f) = some (.type "function"))
    (h : codeAny (model prog w) (A.under (.builtin "type.__call__" ⟨.ref C :: vs, kw⟩)) (.call (.ref f) ⟨.ref (s.heap.objs.size + 1) :: vs, kw⟩) (PySem.W.InitBack (s.heap.objs.size + 1) R)
      { s with heap := (s.heap.push PySem.W.emptyDict).push (PySem.W.instObj C s.heap.objs.size) }) :
    codeAny (model prog w) A (.call (.ref C) ⟨vs, kw⟩) R s := by
  obtain ⟨hh, g, d, t, os⟩ := s
  exact PySem.W.make_core (PySem.W.makes_of X hm) (PySem.W.looks_findIn X hi) (fun self => PySem.W.bind_fn X self hf) (.inl rfl) h
end

/-! ### the attributes as a list of pairs -/
def putF (f : Str) (v : V) : List (Str × V) → List (Str × V)
  | [] => [(f, v)]
  | (g, x) :: r => if g = f then (g, v) :: r else (g, x) :: putF f v r
theorem lookup_putF (f g : Str) (v : V) : ∀ fs : List (Str × V), (putF f v fs).lookup g = if g = f then some v else fs.lookup g
  | [] => by
    show List.lookup g [(f, v)] = _
    by_cases h : g = f
    · have hb : (g == f) = true := beq_iff_eq.mpr h
      simp only [List.lookup, hb, if_pos h]
    · have hb : (g == f) = false := beq_eq_false_iff_ne.mpr h
      simp only [List.lookup, hb, if_neg h]
  | (k, x) :: r => by
    have ih := lookup_putF f g v r
    rw [show putF f v ((k, x) :: r) = (if k = f then (k, v) :: r else (k, x) :: putF f v r) from rfl]
    by_cases hk : k = f
    · rw [if_pos hk]
      by_cases h : g = k
      · have hb : (g == k) = true := beq_iff_eq.mpr h
        simp only [List.lookup, hb, if_pos (h.trans hk)]
      · have hb : (g == k) = false := beq_eq_false_iff_ne.mpr h
        simp only [List.lookup, hb, if_neg (fun e : g = f => h (e.trans hk.symm))]
    · rw [if_neg hk]
      by_cases h : g = k
      · have hb : (g == k) = true := beq_iff_eq.mpr h
        simp only [List.lookup, hb, if_neg (fun e : g = f => hk (h.symm.trans e))]
      · have hb : (g == k) = false := beq_eq_false_iff_ne.mpr h
        simp only [List.lookup, hb]
        exact ih
theorem keys_putF (f : Str) (v : V) : ∀ fs : List (Str × V), f ∈ (putF f v fs).map (·.1) ∧ ∀ g, g ∈ fs.map (·.1) → g ∈ (putF f v fs).map (·.1)
  | [] => ⟨by simp [putF], fun g h => by simp at h⟩
  | (k, x) :: r => by
    obtain ⟨i1, i2⟩ := keys_putF f v r
    rw [show putF f v ((k, x) :: r) = (if k = f then (k, v) :: r else (k, x) :: putF f v r) from rfl]
    by_cases hk : k = f
    · rw [if_pos hk]
      subst hk
      exact ⟨by simp, fun g h => by simpa using h⟩
    · rw [if_neg hk]
      refine ⟨?_, fun g h => ?_⟩
      · rw [List.map_cons]
        exact List.mem_cons_of_mem _ i1
      · rw [List.map_cons] at h ⊢
        rcases List.mem_cons.mp h with e | e
        · exact List.mem_cons.mpr (.inl e)
        · exact List.mem_cons_of_mem _ (i2 g e)
theorem length_putF (f : Str) (v : V) : ∀ fs : List (Str × V), (putF f v fs).length ≤ fs.length + 1
  | [] => by simp [putF]
  | (k, x) :: r => by
    have ih := length_putF f v r
    rw [show putF f v ((k, x) :: r) = (if k = f then (k, v) :: r else (k, x) :: putF f v r) from rfl]
    by_cases hk : k = f
    · rw [if_pos hk, List.length_cons, List.length_cons]; omega
    · rw [if_neg hk, List.length_cons, List.length_cons]; omega

theorem RelO.some_of {v : V} {o : Option Value} (r : RelO (some v) o) : ∃ u, o = some u ∧ RelV v u := by
  cases o with
  | none => exact (show False from r).elim
  | some u => exact ⟨u, rfl, r⟩
theorem RelO.none_of {o : Option Value} (r : RelO none o) : o = none := by
  cases o with
  | none => rfl
  | some u => exact (show False from r).elim
theorem handed_of {v : V} {u : Value} (r : RelV v u) : PySem.W.handedIn u = true := by
  cases v with
  | non => cases (show u = Value.none from r); rfl
  | bl b => cases (show u = Value.bool b from r); rfl
  | int i => obtain ⟨t, e⟩ := (show ∃ t, u = Value.int i t from r); cases e; rfl
  | str x => obtain ⟨t, e⟩ := (show ∃ t, u = Value.str x t from r); cases e; rfl
  | byt b => obtain ⟨t, e⟩ := (show ∃ t, u = Value.bytes b t from r); cases e; rfl
  | flt b => obtain ⟨t, e⟩ := (show ∃ t, u = Value.float b t from r); cases e; rfl
  | ref a => cases (show u = Value.ref a from r); rfl
  | ty n => cases (show u = Value.type n from r); rfl

section
variable {P : Program} {w : World} {H H' : Hp} {h h' : Heap} {a C dx : Addr} {fs fs' : List (Str × V)}
theorem ins_get (hok : HOk P w H h) (e : H a = some (.ins C dx fs)) : ∃ mA, ObjM h a dx C mA ∧ (∀ f, RelO (fs.lookup f) (mA f)) ∧ PySem.Within mA (fs.map (·.1)) ∧ fs.length ≤ 1000 ∧ H dx = some (.own a) := by
  obtain ⟨d, z, ne, ob, mA, n, r, q⟩ := (show ObjOk P w H h a (.ins C dx fs) from hok a _ e)
  exact ⟨mA, ⟨ob, n, ne⟩, r, q, z, d⟩
end

/-! ### what of the text a class must have -/
structure Cls (K : PySem.W.Frag) (C : Addr) : Prop where
  pg : PySem.W.plainGet K C Str.empty = true
  hd : PySem.W.hasDictIn K C = true
  po : PySem.W.plainOver K C = true
  sa : PySem.W.findIn K (.ref C) "__setattr__" = some (some (.builtin "object.__setattr__"))
theorem Cls.get {K : PySem.W.Frag} {C : Addr} (c : Cls K C) (f : Str) : PySem.W.plainGet K C f = true := c.pg
/-- no class of it has the name -/
def NoAttr (K : PySem.W.Frag) (C : Addr) (f : Str) : Prop := PySem.W.findIn K (.ref C) f = some none
theorem NoAttr.taker {K : PySem.W.Frag} {C : Addr} {f : Str} (n : NoAttr K C f) : PySem.W.takerIn K C f = some none := by
  unfold PySem.W.takerIn
  rw [show PySem.W.findIn K (.ref C) f = some none from n]
  rfl
/-- a method: a plain def of the class or of one above it -/
structure Meth (K : PySem.W.Frag) (C : Addr) (m : Str) (f : Addr) : Prop where
  at_ : PySem.W.findIn K (.ref C) m = some (some (.ref f))
  fn : PySem.W.isFn K (.ref f) = true
  kp : PySem.W.keepIn K (.ref f) = true

section
variable {X : Cx} {pins : List (Addr × Obj)} {σ : St} {H : Hp} {s : Shared} {a C dx : Addr} {fs : List (Str × V)} {f : Str} {v : V} {A : Around} {E : Value → Shared → Prop}

theorem getattr_ok {b : Bool} {Q : Value → Shared → Prop} (I : Inv X pins σ H s) (e : H a = some (.ins C dx fs)) (c : Cls X.K C) (n : NoAttr X.K C f) (l : fs.lookup f = some v)
    (h : ∀ u s', Inv X pins σ H s' → RelV v u → Q u s') : wpAny (model X.prog X.w) A (getAttr (.ref a) f b) Q E s := by
  obtain ⟨mA, O, r, _, _, _⟩ := ins_get I.hok e
  obtain ⟨u, hu, ru⟩ := RelO.some_of (v := v) (o := mA f) (by rw [← l]; exact r f)
  exact get_map I.kIn O (c.get f) c.hd n hu (handed_of ru) (h u _ (I.tok _) ru)

theorem getmeth_ok {m : Str} {g : Addr} {pl : Sem Bool} {Q : Value × List Value → Shared → Prop} (I : Inv X pins σ H s) (e : H a = some (.ins C dx fs)) (c : Cls X.K C) (k : Meth X.K C m g) (l : fs.lookup m = none)
    (h : Q (.ref g, [.ref a]) s) : wpAny (model X.prog X.w) A (getMethod (.ref a) m pl) Q E s := by
  obtain ⟨mA, O, r, _, _, _⟩ := ins_get I.hok e
  have hn : mA m = none := RelO.none_of (by rw [← l]; exact r m)
  exact get_meth I.kIn O (c.get m) k.at_ k.fn hn h

theorem setattr_ok {y : V} {u : Value} {Q : Unit → Shared → Prop} (I : Inv X pins σ H s) (e : H a = some (.ins C dx fs)) (c : Cls X.K C) (n : NoAttr X.K C f) (hl : fs.length < 1000) (ry : RelV y u)
    (h : ∀ s', Inv X pins σ (upd H a (.ins C dx (putF f y fs))) s' → Q () s') : wpAny (model X.prog X.w) A (setAttr (.ref a) f u) Q E s := by
  obtain ⟨mA, O, r, wi, _, ho⟩ := ins_get I.hok e
  have hz : (fs.map (·.1)).length ≤ sizeLine := by rw [List.length_map, sizeLine_eq]; omega
  refine set_map I.kIn O c.sa c.po n.taker c.hd wi hz fun h' O' sb => h _ ?_
  have hd : ∃ o, h'.get? dx = some o := let ⟨o, _, _, e', _⟩ := O'.ns; ⟨o, e'⟩
  refine I.write (x := a) (e := dx) (by rw [e]; exact True.intro) (.inr ho) (fun b q hb z => (sb.2 b hb).trans z) hd ?_
  refine ⟨by rw [upd_ne O.ne]; exact ho, ?_, O.ne, O'.obj, _, O'.ns, fun g => ?_, fun g hg => ?_⟩
  · have := length_putF f y fs; omega
  · show RelO ((putF f y fs).lookup g) (if g = f then some u else mA g)
    rw [lookup_putF]
    by_cases q : g = f
    · rw [if_pos q, if_pos q]; exact ry
    · rw [if_neg q, if_neg q]; exact r g
  · by_cases q : g = f
    · rw [q]; exact (keys_putF f y fs).1
    · refine (keys_putF f y fs).2 g (wi g fun z => hg ?_)
      show (if g = f then some u else mA g) = none
      rw [if_neg q]; exact z

/-- a new instance, tracked, without attributes -/
theorem Inv.made (I : Inv X pins σ H s) : Inv X pins σ (upd (upd H s.heap.objs.size (.own (s.heap.objs.size + 1))) (s.heap.objs.size + 1) (.ins C s.heap.objs.size []))
    { s with heap := (s.heap.push PySem.W.emptyDict).push (PySem.W.instObj C s.heap.objs.size) } := by
  have e1 : (s.heap.push PySem.W.emptyDict).get? s.heap.objs.size = some PySem.W.emptyDict := Heap.get?_push_size s.heap rfl
  have e2 : ((s.heap.push PySem.W.emptyDict).push (PySem.W.instObj C s.heap.objs.size)).get? (s.heap.objs.size + 1) = some (PySem.W.instObj C s.heap.objs.size) := by
    have := Heap.get?_push_size (s.heap.push PySem.W.emptyDict) (o := PySem.W.instObj C s.heap.objs.size) rfl
    rwa [Heap.size_push] at this
  have e3 : (s.heap.push PySem.W.emptyDict).Ns s.heap.objs.size (fun _ => none) := ⟨PySem.W.emptyDict, #[], _, e1, rfl, (fun e he => absurd he (by simp)), fun _ => rfl⟩
  have I1 := I.laid (a := s.heap.objs.size) (o := .own (s.heap.objs.size + 1)) (h' := s.heap.push PySem.W.emptyDict) (t' := s.toks) (fun b u q => Heap.get?_push_of_some _ q) (Nat.le_refl _) ⟨_, e1⟩
  refine I1.laid (a := s.heap.objs.size + 1) (o := .ins C s.heap.objs.size []) (t' := s.toks) (fun b u q => Heap.get?_push_of_some _ q) (Nat.le_of_eq (Heap.size_push _ _)) ?_
  have ne : s.heap.objs.size ≠ s.heap.objs.size + 1 := Nat.ne_of_lt (Nat.lt_succ_self _)
  refine ⟨by rw [upd_ne ne, upd_same], Nat.zero_le _, ne, e2, fun _ => none, (Heap.Ns1.of_empty e3).at fun o q => Heap.get?_push_of_some _ q, fun _ => True.intro, fun y hy => absurd rfl hy⟩

/-- e.f where nothing but the object is asked: through attributeBase (super) and the last hold -/
theorem attr_of {prog : Program} {w : World} {env : Env} {e : Expr} {f : Str} {pos : Pos} {s : Shared} {Q : Value → Shared → Prop} (hb : attributeBase e f env (eval e env) = eval e env)
    (h : wpAny (model prog w) A (eval e env) (fun o s₁ => wpAny (model prog w) A (getAttr o f true) Q E s₁) E s) : wpAny (model prog w) A (eval (.Attribute e f pos) env) Q E s :=
  Attribute_any_ h (by rw [arm_eval_Attribute, hb])
end

/-! ### readings and rules -/
/-- e.f, an attribute of the instance -/
def tFld (K : PySem.W.Frag) (ta : TE) (f : Str) : TE := fun σ H Q => ta σ H fun x H1 => ∃ a C dx fs v, x = .ref a ∧ H1 a = some (.ins C dx fs) ∧ Cls K C ∧ NoAttr K C f ∧ fs.lookup f = some v ∧ Q v H1
/-- e.f = value -/
def sFld (K : PySem.W.Frag) (ta tv : TE) (f : Str) : TS := fun D σ H => tv σ H fun y H1 => ta σ H1 fun x H2 => ∃ a C dx fs, x = .ref a ∧ H2 a = some (.ins C dx fs) ∧ Cls K C ∧ NoAttr K C f ∧ fs.length < 1000 ∧
  D.nx σ (upd H2 a (.ins C dx (putF f y fs)))
section
variable {X : Cx} {o e value : Expr} {f : Str} {pos pos' tpos : Pos} {ta tv : TE}
theorem pe_fld (he : PE X e ta) (hb : attributeBase e f X.env (eval e X.env) = eval e X.env) : PE X (.Attribute e f pos) (tFld X.K ta f) := by
  intro pins s σ H Q I h
  refine attr_of hb (thn (he pins s σ H _ I h) fun u s1 ⟨x, H1, I1, rx, a, C, dx, fs, v, ex, ea, c, n, l, q⟩ => ?_)
  subst ex
  obtain rfl : u = Value.ref a := rx
  exact getattr_ok I1 ea c n l fun u' s2 I2 ru => ⟨v, H1, I2, ru, q⟩
theorem ps_fld (ha : PE X o ta) (hv : PE X value tv) (hs : swapsWith value (some (.Attribute o f pos')) pos.line X.env = pure false) : PS X (.Assign [.Attribute o f pos'] value pos) (sFld X.K ta tv f) := by
  intro pins s σ H D I h
  refine plainObj_wpAny_Assign_Attribute (thn (hv pins s σ H _ I h) fun u s1 ⟨y, H1, I1, ry, q⟩ => thn (ha pins s1 σ H1 _ I1 q) fun ov s2 ⟨x, H2, I2, rx, a, C, dx, fs, ex, ea, c, n, l, q2⟩ => ?_) hs
  subst ex
  obtain rfl : ov = Value.ref a := rx
  exact setattr_ok I2 ea c n l ry fun s3 I3 => ⟨σ, _, I3, q2⟩
end

/-! ### isinstance -/
section
variable {X : Cx} {pins : List (Addr × Obj)} {σ : St} {H : Hp} {s : Shared} {A : Around} {E : Value → Shared → Prop} {Q : Value → Shared → Prop} {c : Value} {b : Bool}
end
end L2

namespace L2
open PySem PySem.Spec PyProof.Rows

/-! ### room -/
structure Room (k : Nat) (A : Around) : Prop where
  hd : A.handled = none
  dp : A.depth + 3 * k + 5 < recursionLimit
  un : A.units + 16 * k + 200 < cLine
theorem Room.mono {j k : Nat} {A : Around} (r : Room k A) (h : j ≤ k) : Room j A := ⟨r.hd, by have := r.dp; omega, by have := r.un; omega⟩
theorem Room.deeper {k : Nat} {A : Around} (r : Room (k + 1) A) (env : Env) : Room k (A.deeper env) :=
  ⟨r.hd, by have := r.dp; show A.depth + 1 + 3 * k + 5 < _; omega, by have := r.un; show A.units + 3 + 16 * k + 200 < _; omega⟩
theorem Room.in1 {k : Nat} {A : Around} (r : Room (k + 1) A) : Room k A.in1 :=
  ⟨r.hd, by have := r.dp; show A.depth + 3 * k + 5 < _; omega, by have := r.un; show A.units + 1 + 16 * k + 200 < _; omega⟩
theorem make_depth {A : Around} {C : Addr} {us : List Value} {kw : List (Str × Value)} : (A.under (.builtin "type.__call__" ⟨.ref C :: us, kw⟩)).depth = A.depth + 1 := by
  first | rfl | simp [Around.under, Code.weight, Code.isCreation, Code.isGuard, Code.isCaller, Code.frames, Code.isFrame, guardIds]
theorem make_units {A : Around} {C : Addr} {us : List Value} {kw : List (Str × Value)} : (A.under (.builtin "type.__call__" ⟨.ref C :: us, kw⟩)).units = A.units + 1 := by
  first | rfl | simp [Around.under, Code.cUnits, Code.frames, Code.isFrame]
theorem Room.make {k : Nat} {A : Around} (r : Room (k + 1) A) (C : Addr) (us : List Value) (kw : List (Str × Value)) : Room k (A.under (.builtin "type.__call__" ⟨.ref C :: us, kw⟩)) :=
  ⟨r.hd, by have := r.dp; rw [make_depth]; omega, by have := r.un; rw [make_units]; omega⟩
theorem Room.depth {k : Nat} {A : Around} (r : Room k A) : A.depth < recursionLimit := by have := r.dp; omega
theorem Room.units {k : Nat} {A : Around} (r : Room k A) : A.units + 64 < cLine := by have := r.un; omega
/-! ### argument lists and displays -/
def tNil : TA := fun _ H Q => Q [] H
def tCons (ta : TE) (tr : TA) : TA := fun σ H Q => ta σ H fun x H1 => tr σ H1 fun xs H2 => Q (x :: xs) H2
section
variable {X : Cx} {e : Expr} {es : List Expr} {te : TE} {t : TA} {pos : Pos}
theorem pa_nil : PA X [] tNil := fun _ _ _ _ H Q I h => Calls.spliced_nil ⟨[], H, I, .nil, h⟩
theorem pa_cons (ha : PE X e te) (hr : PA X es t) (hs : starEach (e :: es) X.env = (false, eval e X.env) :: starEach es X.env := by rfl) : PA X (e :: es) (tCons te t) := by
  intro pos pins s σ H Q I h
  rw [hs]
  show wpAny _ _ (spliced ((false, eval e X.env) :: backTo pos (starEach es X.env))) _ _ s
  refine Calls.spliced_cons (thn (ha pins s σ H _ I h) fun u s1 ⟨x, H1, I1, r1, q1⟩ => ?_)
  exact thn (hr pos pins s1 σ H1 _ I1 q1) fun us s2 ⟨xs, H2, I2, r2, q2⟩ => ⟨x :: xs, H2, I2, .cons r1 r2, q2⟩

def tLst (t : TA) : TE := fun σ H Q => t σ H fun xs H1 => xs.length ≤ sizeLine ∧ ∀ p, H1 p = none → Q (.ref p) (upd H1 p (.lst xs))
theorem pe_lst (h : PA X es t) : PE X (.List es pos) (tLst t) := by
  intro pins s σ H Q I hq
  refine wpAny_List_spliced (thn (h pos pins s σ H _ I hq) fun us s1 ⟨xs, H1, I1, r, z, q⟩ => ⟨by rw [← r.length]; exact z, ?_⟩)
  have hf : H1 s1.heap.objs.size = none := I1.hok.fresh (Nat.le_refl _)
  refine ⟨.ref s1.heap.objs.size, upd H1 s1.heap.objs.size (.lst xs), I1.laid (t' := s1.toks) (fun b u e => Heap.get?_push_of_some _ e) (Nat.le_refl _) ?_, rfl, q _ hf⟩
  exact ⟨z, us, 0, r, Heap.get?_push_size _ rfl⟩
end

/-! ### what a def promises -/
/-- a def's promise: the bound arguments in the parameters' order, the heap, the wanted end, the wanted exception -/
abbrev Sp := List V → Hp → VK → XK → Prop
/-- how an exception lies behind a call (file 08 gives it): the callers' frames, abstract heap and state ahead of the call, the wish, the exception, the state -/
abbrev CXT := List Env → Hp → Shared → XK → Value → Shared → Prop

/-- the state at a call -/
structure Env0 (P : Program) (w : World) (K : PySem.W.Frag) (mg : Str → Option Value) (base : Heap) (A : Around) (outer : List Env) (s : Shared) (H : Hp) : Prop where
  frames : A.frames = some outer
  mod : Mod K mg base
  bs : ∀ b o, base.get? b = some o → s.heap.get? b = some o ∧ H b = none
  bsz : base.objs.size ≤ s.heap.objs.size
  funs : s.heap.FunFrames base outer
  frf : ∀ b ∈ frs outer, H b = none
  hok : HOk P w H s.heap
  bare : AllBare s.gens
/-- a call's end -/
def CE (outer : List Env) (P : Program) (w : World) (H : Hp) (s : Shared) (Q : VK) (u : Value) (s' : Shared) : Prop :=
  ∃ v H', s'.os = s.os ∧ AllBare s'.gens ∧ Un (frs outer) [] H H' s.heap s'.heap ∧ HOk P w H' s'.heap ∧ RelV v u ∧ Q v H'
def CR (CX : CXT) (outer : List Env) (P : Program) (w : World) (H : Hp) (s : Shared) (Q : VK) (E : XK) (r : Result) (s' : Shared) : Prop :=
  match r with
  | .ok (.ret u) => CE outer P w H s Q u s'
  | .ok _ => False
  | .error e => CX outer H s E e s'
structure FnOk (P : Program) (w : World) (K : PySem.W.Frag) (mg : Str → Option Value) (base : Heap) (CX : CXT) (k : Nat) (f : Addr) (fd : FuncData) (ps : List Str) (sp : Sp) : Prop where
  len : ∀ vs H Q E, sp vs H Q E → vs.length = ps.length
  run : ∀ (A : Around) (outer : List Env) (s : Shared) (H : Hp) (args : Args) (us : List Value) (vs : List V) (Q : VK) (E : XK), Room k A → Env0 P w K mg base A outer s H → BindsTo s fd args (ps.zip us) → Vals vs us → sp vs H Q E →
    codeAny (model P w) A (.call (.ref f) args) (CR CX outer P w H s Q E) s
theorem FnOk.mono {P : Program} {w : World} {K : PySem.W.Frag} {mg : Str → Option Value} {base : Heap} {CX : CXT} {j k : Nat} {f : Addr} {fd : FuncData} {ps : List Str} {sp : Sp} (F : FnOk P w K mg base CX j f fd ps sp) (h : j ≤ k) :
    FnOk P w K mg base CX k f fd ps sp := ⟨F.len, fun A outer s H args us vs Q E hr => F.run A outer s H args us vs Q E (hr.mono h)⟩
theorem Env0.make {P : Program} {w : World} {K : PySem.W.Frag} {mg : Str → Option Value} {base : Heap} {A : Around} {outer : List Env} {s : Shared} {H : Hp} (e : Env0 P w K mg base A outer s H) (C : Addr) (us : List Value) (kw : List (Str × Value)) :
    Env0 P w K mg base (A.under (.builtin "type.__call__" ⟨.ref C :: us, kw⟩)) outer s H := ⟨by first | exact e.frames | (simpa [Around.under, Code.envs, Code.isFrame, pushEnvs] using e.frames), e.mod, e.bs, e.bsz, e.funs, e.frf, e.hok, e.bare⟩
theorem Env0.in1 {P : Program} {w : World} {K : PySem.W.Frag} {mg : Str → Option Value} {base : Heap} {A : Around} {outer : List Env} {s : Shared} {H : Hp} (e : Env0 P w K mg base A outer s H) :
    Env0 P w K mg base A.in1 outer s H := ⟨e.frames, e.mod, e.bs, e.bsz, e.funs, e.frf, e.hok, e.bare⟩

section
variable {X : Cx} {pins : List (Addr × Obj)} {σ : St} {H : Hp} {s s' : Shared}
/-- from a body: what a callee wants -/
theorem Inv.env0 (I : Inv X pins σ H s) : Env0 X.prog X.w X.K X.mg X.base X.A X.stack s H :=
  ⟨I.ok.frames, I.ok.mod, I.bs, Nat.le_trans I.ok.bsz I.sz, I.stack, I.stkFree, I.hok, I.bare⟩
/-- behind a call -/
theorem Inv.after {Q : VK} {u : Value} (I : Inv X pins σ H s) (h : CE X.stack X.prog X.w H s Q u s') : EP X pins σ Q u s' := by
  obtain ⟨v, H', os, bare, un, hok, r, q⟩ := h
  obtain ⟨hh, g, d, t, os'⟩ := s'
  obtain rfl : os' = s.os := os
  exact ⟨v, H', I.call (h' := hh) (g' := g) (d' := d) (t' := t) (ch := []) un hok bare (fun b z => absurd z (by simp)), r, q⟩
end

/-! ### calls -/
/-- f(..): the written arguments, then the defaults dvs; E: what is wanted of an exception -/
def tCall (sp : Sp) (dvs : List V) (E : XK) (t : TA) : TE := fun σ H Q => t σ H fun vs H1 => sp (vs ++ dvs) H1 Q E
/-- o.m(..) of an instance of the class at C -/
def tMeth (C : Addr) (m : Str) (sp : Sp) (dvs : List V) (E : XK) (ta : TE) (t : TA) : TE := fun σ H Q => ta σ H fun x H1 => ∃ a dx fs, x = .ref a ∧ H1 a = some (.ins C dx fs) ∧ fs.lookup m = none ∧
  t σ H1 fun vs H2 => sp (x :: (vs ++ dvs)) H2 Q E
/-- C(..): a new instance and its dict, then __init__ -/
def tMake (C : Addr) (sp : Sp) (dvs : List V) (E : XK) (t : TA) : TE := fun σ H Q => t σ H fun vs H1 => ∀ x dx, H1 x = none → H1 dx = none → dx ≠ x →
  sp (.ref x :: (vs ++ dvs)) (upd (upd H1 dx (.own x)) x (.ins C dx [])) (fun v H2 => v = .non ∧ Q (.ref x) H2) E

/-- how the parameters are bound: us the positional arguments, kw the keywords' values by name, ds the defaults that fill up -/
def Binds (K : PySem.W.Frag) (fd : FuncData) (ps : List Str) (ds : List Value) : Prop :=
  ∀ (s : Shared) (us : List Value), K.In s.heap → (us ++ ds).length = ps.length → BindsTo s fd ⟨us, []⟩ (ps.zip (us ++ ds))
/-- every parameter is given -/
theorem Binds.all {K : PySem.W.Frag} {fd : FuncData} {ps : List Str} (h : ∀ us : List Value, us.length = ps.length → bindArgs fd ⟨us, []⟩ = pure (ps.zip us)) : Binds K fd ps [] := fun s us _ hl => by
  rw [List.append_nil] at hl ⊢
  exact .of_eq (h us hl)

/-- an exception of a callee reaches what this body wants of exceptions -/
def Passes (CX : CXT) (X : Cx) (E : XK) : Prop := ∀ (pins : List (Addr × Obj)) (σ : St) (H : Hp) (s : Shared) (e : Value) (s' : Shared), Inv X pins σ H s → CX X.stack H s E e s' → X.xe e s'

section
variable {X : Cx} {CX : CXT} {k : Nat} {f C : Addr} {fd : FuncData} {ps : List Str} {sp : Sp} {dvs : List V} {ds : List Value} {E : XK} {x m : Str} {p pos apos : Pos} {e o : Expr} {es : List Expr} {ta : TE} {t : TA}

/-- the callee runs -/
theorem run_fn {pins : List (Addr × Obj)} {σ : St} {H : Hp} {s : Shared} {Q : VK} {us : List Value} {vs : List V} (F : FnOk X.prog X.w X.K X.mg X.base CX k f fd ps sp) (hr : Room k X.A) (hb : Binds X.K fd ps ds) (hd : Vals dvs ds) (hx : Passes CX X E)
    (I : Inv X pins σ H s) (r : Vals vs us) (h : sp (vs ++ dvs) H Q E) : wpAny (model X.prog X.w) X.A (call (.ref f) us) (EP X pins σ Q) X.xe s := by
  have r2 : Vals (vs ++ dvs) (us ++ ds) := r.append hd
  have hl : (us ++ ds).length = ps.length := by rw [← r2.length]; exact F.len _ _ _ _ h
  refine wpAny_call (codeAny_mono (F.run X.A X.stack s H ⟨us, []⟩ (us ++ ds) (vs ++ dvs) Q E hr I.env0 (hb s us I.kIn hl) r2 h) fun r s' hq => ?_)
  cases r with
  | error e => exact hx pins σ H s e s' I hq
  | ok fl =>
    cases fl with
    | ret u => exact I.after hq
    | next => exact False.elim hq
    | brk => exact False.elim hq
    | cont => exact False.elim hq

theorem pe_call (F : FnOk X.prog X.w X.K X.mg X.base CX k f fd ps sp) (hr : Room k X.A) (hg : Gl X x) (hm : X.mg x = some (.ref f)) (hk : PySem.W.keepIn X.K (.ref f) = true) (hb : Binds X.K fd ps ds) (hd : Vals dvs ds) (hx : Passes CX X E)
    (ha : PA X (e :: es) t) (hdb : (x == ("__debug__" : Str)) = false := by decide) (he : starEach (e :: es) X.env = (false, eval e X.env) :: starEach es X.env := by rfl) (hpl : (backTo pos (starEach es X.env)).any (·.1) = false := by rfl) :
    PE X (.Call (.Name x p) (e :: es) [] pos) (tCall sp dvs E t) := by
  intro pins s σ H Q I h
  refine wpAny_Call_Name_kw (ld_glob I hg hm ?_ hdb)
  refine PySem.W.callWith_K (h₀ := X.base) I.ok.mod.kin hk (thn (ha pos pins s σ H _ I h) fun us s1 ⟨vs, H1, I1, r, q⟩ => ⟨I1.kIn, ?_⟩) he hpl
  exact run_fn F hr hb hd hx I1 r q
/-- o.m(e, ..) -/
theorem pe_meth {pl : Sem Bool} (he : PE X o ta) (c : Cls X.K C) (hm : Meth X.K C m f) (F : FnOk X.prog X.w X.K X.mg X.base CX k f fd ps sp) (hr : Room k X.A) (hb : Binds X.K fd ps ds) (hd : Vals dvs ds) (hx : Passes CX X E) (ha : PA X (e :: es) t)
    (hst : starEach (e :: es) X.env = (false, eval e X.env) :: starEach es X.env := by rfl) (hpl : (backTo pos (starEach es X.env)).any (·.1) = false := by rfl)
    (ht : eval (.Call (.Attribute o m apos) (e :: es) [] pos) X.env = (do
      let ov ← eval o X.env
      standAt apos.atName
      let (f, first) ← holding [ov] (getMethod ov m pl)
      callWith pos f first (backTo pos (starEach (e :: es) X.env)) (backToKw pos (keywordEach [] X.env))) := by rfl) :
    PE X (.Call (.Attribute o m apos) (e :: es) [] pos) (tMeth C m sp dvs E ta t) := by
  intro pins s σ H Q I h
  refine PySem.W.methodCall_KW (pl := pl) (thn (he pins s σ H _ I h) fun u s1 ⟨x, H1, I1, rx, a, dx, fs, ex, ea, l, q⟩ => ?_) ht
  subst ex
  obtain rfl : u = Value.ref a := rx
  refine getmeth_ok I1 ea c hm l ?_
  refine PySem.W.callWith_K (first := [.ref a]) (h₀ := X.base) I.ok.mod.kin hm.kp (thn (ha pos pins s1 σ H1 _ I1 q) fun us s2 ⟨vs, H2, I2, r, q2⟩ => ⟨I2.kIn, ?_⟩) hst hpl
  exact run_fn (us := .ref a :: us) (vs := .ref a :: vs) F hr hb hd hx I2 (.cons rfl r) q2
/-- o.m() -/
theorem pe_meth0 {pl : Sem Bool} (he : PE X o ta) (c : Cls X.K C) (hm : Meth X.K C m f) (F : FnOk X.prog X.w X.K X.mg X.base CX k f fd ps sp) (hr : Room k X.A) (hb : Binds X.K fd ps ds) (hd : Vals dvs ds) (hx : Passes CX X E)
    (ht : eval (.Call (.Attribute o m apos) [] [] pos) X.env = (do
      let ov ← eval o X.env
      standAt apos.atName
      let (f, first) ← holding [ov] (getMethod ov m pl)
      callWith pos f first (backTo pos (starEach [] X.env)) (backToKw pos (keywordEach [] X.env))) := by rfl) :
    PE X (.Call (.Attribute o m apos) [] [] pos) (tMeth C m sp dvs E ta tNil) := by
  intro pins s σ H Q I h
  refine PySem.W.methodCall_KW (pl := pl) (thn (he pins s σ H _ I h) fun u s1 ⟨x, H1, I1, rx, a, dx, fs, ex, ea, l, q⟩ => ?_) ht
  subst ex
  obtain rfl : u = Value.ref a := rx
  refine getmeth_ok I1 ea c hm l ?_
  exact PySem.W.callWith_K0 (first := [.ref a]) I1.kIn hm.kp (run_fn (us := [.ref a]) (vs := [.ref a]) F hr hb hd hx I1 (.cons rfl .nil) q)

/-- what a class must have to be made -/
structure Mk (K : PySem.W.Frag) (C f : Addr) : Prop where
  makes : PySem.W.makesIn K C = true
  init : PySem.W.findIn K (.ref C) "__init__" = some (some (.ref f))
  fn : PySem.W.isFn K (.ref f) = true
  kp : PySem.W.keepIn K (.ref C) = true

theorem run_make {pins : List (Addr × Obj)} {σ : St} {H : Hp} {s : Shared} {Q : VK} {us : List Value} {vs : List V} (M : Mk X.K C f) (F : FnOk X.prog X.w X.K X.mg X.base CX k f fd ps sp) (hr : Room (k + 1) X.A) (hb : Binds X.K fd ps ds) (hd : Vals dvs ds)
    (hx : Passes CX X E) (I : Inv X pins σ H s) (r : Vals vs us)
    (h : ∀ x dx, H x = none → H dx = none → dx ≠ x → sp (.ref x :: (vs ++ dvs)) (upd (upd H dx (.own x)) x (.ins C dx [])) (fun v H2 => v = .non ∧ Q (.ref x) H2) E) :
    wpAny (model X.prog X.w) X.A (call (.ref C) us) (EP X pins σ Q) X.xe s := by
  have hq := h (s.heap.objs.size + 1) s.heap.objs.size (I.hok.fresh (Nat.le_succ _)) (I.hok.fresh (Nat.le_refl _)) (Nat.ne_of_lt (Nat.lt_succ_self _))
  have I2 := Inv.made (C := C) I
  have r2 : Vals (V.ref (s.heap.objs.size + 1) :: (vs ++ dvs)) (Value.ref (s.heap.objs.size + 1) :: (us ++ ds)) := .cons rfl (r.append hd)
  have hl : (Value.ref (s.heap.objs.size + 1) :: us ++ ds).length = ps.length := by
    have e := r2.length
    rw [F.len _ _ _ _ hq] at e
    exact e.symm
  refine wpAny_call (make_map (f := f) I.kIn M.makes M.init (beq_iff_eq.mp M.fn) (codeAny_mono (F.run _ X.stack _ _ ⟨Value.ref (s.heap.objs.size + 1) :: us, []⟩ (Value.ref (s.heap.objs.size + 1) :: (us ++ ds)) _ _ E (hr.make C us [])
    (I2.env0.make C us []) (hb _ (Value.ref (s.heap.objs.size + 1) :: us) I2.kIn hl) r2 hq) fun r s' hq' => ?_))
  cases r with
  | error e => exact hx pins σ _ _ e s' I2 hq'
  | ok fl =>
    cases fl with
    | ret u =>
      obtain ⟨v, H', I3, rv, ev, q3⟩ := I2.after hq'
      subst ev
      exact ⟨rv, ⟨V.ref (s.heap.objs.size + 1), H', I3, rfl, q3⟩⟩
    | next => exact False.elim hq'
    | brk => exact False.elim hq'
    | cont => exact False.elim hq'
theorem pe_make (M : Mk X.K C f) (F : FnOk X.prog X.w X.K X.mg X.base CX k f fd ps sp) (hr : Room (k + 1) X.A) (hg : Gl X x) (hm : X.mg x = some (.ref C)) (hb : Binds X.K fd ps ds) (hd : Vals dvs ds) (hx : Passes CX X E)
    (ha : PA X (e :: es) t) (hdb : (x == ("__debug__" : Str)) = false := by decide) (he : starEach (e :: es) X.env = (false, eval e X.env) :: starEach es X.env := by rfl) (hpl : (backTo pos (starEach es X.env)).any (·.1) = false := by rfl) :
    PE X (.Call (.Name x p) (e :: es) [] pos) (tMake C sp dvs E t) := by
  intro pins s σ H Q I h
  refine wpAny_Call_Name_kw (ld_glob I hg hm ?_ hdb)
  refine PySem.W.callWith_K (h₀ := X.base) I.ok.mod.kin M.kp (thn (ha pos pins s σ H _ I h) fun us s1 ⟨vs, H1, I1, r, q⟩ => ⟨I1.kIn, ?_⟩) he hpl
  exact run_make M F hr hb hd hx I1 r q
theorem pe_make0 (M : Mk X.K C f) (F : FnOk X.prog X.w X.K X.mg X.base CX k f fd ps sp) (hr : Room (k + 1) X.A) (hg : Gl X x) (hm : X.mg x = some (.ref C)) (hb : Binds X.K fd ps ds) (hd : Vals dvs ds) (hx : Passes CX X E)
    (hdb : (x == ("__debug__" : Str)) = false := by decide) : PE X (.Call (.Name x p) [] [] pos) (tMake C sp dvs E tNil) := by
  intro pins s σ H Q I h
  refine wpAny_Call_Name_kw (ld_glob I hg hm ?_ hdb)
  exact PySem.W.callWith_K0 I.kIn M.kp (run_make (us := []) M F hr hb hd hx I .nil h)
end

/-! ### keywords -/
section
variable {X : Cx} {CX : CXT} {k : Nat} {f C : Addr} {fd : FuncData} {ps ks : List Str} {sp : Sp} {E : XK} {x m : Str} {p pos apos kpos : Pos} {e o : Expr} {es : List Expr} {kws : List Keyword} {te ta : TE} {t tk : TA} {nm : Option Str}
variable {g : List Value → List Value → List Value} {gV : List V → List V → List V}
end

/-! ### a def's body keeps its promise -/
/-- names: the parameters first -/
structure FnScope (N P : List Str) (sc : Scope) : Prop where
  kind : sc.kind = .function
  co : sc.isCoroutine = false
  gen : sc.isGenerator = false
  nd : N.Nodup
  pre : N.take P.length = P
  par : ∀ x ∈ P, sc.names.lookup x = some .local ∨ sc.names.lookup x = some .cell
  nofree : ∀ y ∈ sc.names, y.2 ≠ .free

theorem bindL_out {kindOf : Str → Option NameKind} {x : Str} : ∀ {binds : List (Str × Value)} {m : Str → Option Value}, (∀ v, (x, v) ∉ binds) → bindL kindOf binds m x = m x
  | [], _, _ => rfl
  | (n, v) :: r, m, h => by
    unfold bindL
    rw [bindL_out fun w hw => h w (List.mem_cons_of_mem _ hw)]
    split
    · have : x ≠ n := by rintro rfl; exact h v List.mem_cons_self
      simp [this]
    · rfl
theorem bindC_out {kindOf : Str → Option NameKind} {x : Str} : ∀ {binds : List (Str × Value)} {m : Str → Option Value}, (∀ v, (x, v) ∉ binds) → bindC kindOf binds m x = m x
  | [], _, _ => rfl
  | (n, v) :: r, m, h => by
    unfold bindC
    rw [bindC_out fun w hw => h w (List.mem_cons_of_mem _ hw)]
    split
    · rfl
    · have : x ≠ n := by rintro rfl; exact h v List.mem_cons_self
      simp [this]
theorem bindL_get {kindOf : Str → Option NameKind} {x : Str} {v : Value} : ∀ {P : List Str} {vs : List Value} {i : Nat} {m : Str → Option Value}, P.Nodup → P[i]? = some x → vs[i]? = some v → kindOf x = some .local →
    bindL kindOf (P.zip vs) m x = some v
  | [], _, _, _, _, h, _, _ => by simp at h
  | _ :: _, [], _, _, _, _, h, _ => by simp at h
  | p :: P, w :: vs, 0, m, nd, h1, h2, hk => by
    simp at h1 h2; subst h1; subst h2
    show bindL kindOf ((p, w) :: P.zip vs) m p = _
    unfold bindL
    rw [bindL_out fun v hv => (List.nodup_cons.mp nd).1 (List.of_mem_zip hv).1, if_pos hk]
    simp
  | p :: P, w :: vs, i + 1, m, nd, h1, h2, hk => by
    show bindL kindOf ((p, w) :: P.zip vs) m x = _
    unfold bindL
    exact bindL_get (i := i) (List.nodup_cons.mp nd).2 (by simpa using h1) (by simpa using h2) hk
theorem bindC_get {kindOf : Str → Option NameKind} {x : Str} {v : Value} : ∀ {P : List Str} {vs : List Value} {i : Nat} {m : Str → Option Value}, P.Nodup → P[i]? = some x → vs[i]? = some v → kindOf x ≠ some .local →
    bindC kindOf (P.zip vs) m x = some v
  | [], _, _, _, _, h, _, _ => by simp at h
  | _ :: _, [], _, _, _, _, h, _ => by simp at h
  | p :: P, w :: vs, 0, m, nd, h1, h2, hk => by
    simp at h1 h2; subst h1; subst h2
    show bindC kindOf ((p, w) :: P.zip vs) m p = _
    unfold bindC
    rw [bindC_out fun v hv => (List.nodup_cons.mp nd).1 (List.of_mem_zip hv).1, if_neg hk]
    simp
  | p :: P, w :: vs, i + 1, m, nd, h1, h2, hk => by
    show bindC kindOf ((p, w) :: P.zip vs) m x = _
    unfold bindC
    exact bindC_get (i := i) (List.nodup_cons.mp nd).2 (by simpa using h1) (by simpa using h2) hk

/-- the names' values at the entry -/
def start (N : List Str) (vs : List V) : St := vs.map some ++ List.replicate (N.length - vs.length) none

/-- the context of a def's body, at its entry; an exception leaves the frame, then lies as CX says -/
def cxOf (CX : CXT) (P : Program) (w : World) (K : PySem.W.Frag) (mg : Str → Option Value) (base : Heap) (N : List Str) (qual : Str) (scope : Scope) (f : Addr) (cd : Value) (A : Around) (outer : List Env) (s : Shared) (H : Hp) (E : XK) : Cx where
  prog := P
  w := w
  K := K
  mg := mg
  base := base
  A := A.deeper (envOfC qual scope s.heap.objs.size f cd)
  N := N
  s_0 := s
  H_0 := H
  env := envOfC qual scope s.heap.objs.size f cd
  outer := outer
  stack := envOfC qual scope s.heap.objs.size f cd :: outer
  ex := []
  calm := true
  fn := fun _ => true
  pn := []
  xe := fun e s' => wpAny (model P w) (A.deeper (envOfC qual scope s.heap.objs.size f cd)) (leaving (envOfC qual scope s.heap.objs.size f cd) e) (fun _ s'' => CX outer H s E e s'') (fun e' s'' => CX outer H s E e' s'') s'

theorem cell_has {sc : Scope} {n : Nat} {x : Str} (h : sc.names.lookup x = some .cell) : ∃ c, (cellsFrom n sc.names []).lookup x = some c := by
  have q := PySem.W.cellsFrom_some sc.names n [] (.inl h)
  exact Option.isSome_iff_exists.mp q

theorem inv_start {CX : CXT} {P : Program} {w : World} {K : PySem.W.Frag} {mg : Str → Option Value} {base : Heap} {N ps : List Str} {qual : Str} {scope : Scope} {f : Addr} {cd : Value} {A : Around} {outer : List Env} {s s1 : Shared} {H : Hp} {E : XK} {us : List Value} {vs : List V}
    (S : FnScope N ps scope) (hd : A.handled = none) (e0 : Env0 P w K mg base A outer s H) (hl : vs.length = ps.length) (r : Vals vs us)
    (x : InCallC s s.heap.objs.size (bindL (envOfC qual scope s.heap.objs.size f cd).kindOf (ps.zip us) fun _ => none) (cellsFrom (s.heap.objs.size + 1) scope.names []) (bindC (envOfC qual scope s.heap.objs.size f cd).kindOf (ps.zip us) fun _ => none) s1) :
    Inv (cxOf CX P w K mg base N qual scope f cd A outer s H E) [] (start N vs) H s1 := by
  have hpl : ps.length ≤ N.length := by have := congrArg List.length S.pre; rw [List.length_take] at this; omega
  obtain ⟨h1, tk, rfl, hk⟩ := x.done
  have noA : ∀ b : Addr, b ∉ (cxOf CX P w K mg base N qual scope f cd A outer s H E).ex := fun b z => absurd (show b ∈ ([] : List Addr) from z) (by simp)
  refine ⟨⟨e0.mod, S.kind, rfl, rfl, Nat.le_refl _, fun y z c h1 h2 => ?_, fun y hy => ?_, fun y c _ h => ?_, fun _ => hd, Around.frames_deeper e0.frames, .inr ⟨rfl, rfl⟩, fun b z => absurd z (noA b), e0.bs, e0.bsz, fun b _ _ => noA b, fun b z => absurd z (noA b), e0.funs, e0.frf⟩,
    rfl, e0.bare, Un.kept hk, ⟨_, x.toInCall.ns, fun i y v h1 h2 h3 => ?_⟩, fun y c h => ⟨_, x.cell y c h⟩, e0.hok.fresh (Nat.le_refl _), fun y c h => ?_, fun p hp => absurd (show p ∈ ([] : List (Addr × Obj)) from hp) (by simp), e0.hok.kept hk, ?_⟩
  · exact name_of_addr x.apart (PySem.mem_of_lookup h1) (PySem.mem_of_lookup h2)
  · have hy : scope.names.lookup y = some .cell ∨ scope.names.lookup y = some .free := hy
    rcases hy with hy | hy
    · exact cell_has hy
    · exact absurd rfl (S.nofree _ (PySem.mem_of_lookup hy))
  · exact Nat.le_of_lt (x.above y c (PySem.mem_of_lookup h))
  · have hi : i < vs.length := by
      unfold start at h2
      by_cases hi : i < vs.length
      · exact hi
      · rw [List.getElem?_append_right (by simpa using hi)] at h2
        rw [List.getElem?_replicate] at h2
        split at h2 <;> cases h2
    have ha : vs[i]? = some v := by
      unfold start at h2
      rw [List.getElem?_append_left (by simpa using hi), List.getElem?_map] at h2
      cases e : vs[i]? with
      | none => rw [e] at h2; cases h2
      | some a => rw [e] at h2; cases h2; rfl
    obtain ⟨u, hu, rv⟩ := r.get ha
    have hp : ps[i]? = some y := by
      rw [← S.pre, List.getElem?_take_of_lt (by omega)]; exact h1
    have ndP : ps.Nodup := by rw [← S.pre]; exact S.nd.sublist (List.take_sublist _ _)
    refine ⟨u, rv, ?_⟩
    rcases S.par y (List.mem_of_getElem? hp) with k | k
    · exact .inl ⟨k, bindL_get ndP hp hu k⟩
    · obtain ⟨c, e⟩ := cell_has (n := s.heap.objs.size + 1) k
      refine .inr ⟨.inl k, c, e, ?_⟩
      have q := x.cell y c e
      rw [bindC_get ndP hp hu (by show scope.names.lookup y ≠ _; rw [k]; decide)] at q
      exact q
  · exact e0.hok.fresh (Nat.le_of_lt (x.above y c (PySem.mem_of_lookup h)))
  · unfold start
    show _ = N.length
    rw [List.length_append, List.length_map, List.length_replicate]
    omega

/-- THE RULE: a def (or a method) of the text, by its body. The body's reading t is chosen for each entry; it is run at the parameters' values -/
theorem fn_of {CX : CXT} {P : Program} {w : World} {K : PySem.W.Frag} {mg : Str → Option Value} {base : Heap} {k : Nat} {f : Addr} {name qual : Str} {params : Arguments} {body : List Stmt} {scope : Scope} {dV kV doc pm cdv ct oc : Value} {an od : Option Addr}
    {osl : Array (Option Value)} {N ps : List Str} {sp : Sp} (lk : K.lookup f = some ⟨oc, od, .func (PySem.W.fnOf name qual params body scope dV kV doc pm an cdv ct), osl⟩) (hcd : PySem.W.codeIn K cdv qual = true) (S : FnScope N ps scope)
    (len : ∀ vs H Q E, sp vs H Q E → vs.length = ps.length)
    (hbody : ∀ (A : Around) (outer : List Env) (s : Shared) (H : Hp) (vs : List V) (Q : VK) (E : XK), Room k (A.deeper (envOfC qual scope s.heap.objs.size f cdv)) → sp vs H Q E →
      ∃ t, PSs (cxOf CX P w K mg base N qual scope f cdv A outer s H E) body t ∧ t { nx := fun _ H' => Q .non H', rt := Q } (start N vs) H) :
    FnOk P w K mg base CX (k + 1) f (PySem.W.fnOf name qual params body scope dV kV doc pm an cdv ct) ps sp := by
  refine ⟨len, fun A outer s H args us vs Q E hr e0 hb r hsp => ?_⟩
  have hl := len _ _ _ _ hsp
  have KX : K.In s.heap := e0.mod.kin.keeps fun b o e => (e0.bs b o e).1
  have lim : s.heap.NoLimit := e0.mod.nolimit.keeps fun b o e => (e0.bs b o e).1
  have hkind : ∀ y ∈ ps.zip us, scope.names.lookup y.1 = some .local ∨ (scope.names.lookup y.1 = some .cell ∧ ((cellsFrom (s.heap.objs.size + 1) scope.names []).lookup y.1).isSome = true) := fun ⟨n, v⟩ hy => by
    rcases S.par n (List.of_mem_zip hy).1 with q | q
    · exact .inl q
    · exact .inr ⟨q, PySem.W.cellsFrom_some _ _ _ (.inl q)⟩
  refine codeAny_call_function hr.depth (KX _ _ lk) rfl S.co S.gen rfl (PySem.W.codeRec_of KX hcd) (hb _ _ _ _ ?_)
  refine wpAny_newFunctionEnv_cells S.kind hkind fun env he s1 x => ?_
  subst he
  refine ⟨lim.keeps x.toInCall.keep, codeAny_func ?_⟩
  obtain ⟨t, ht, hq⟩ := hbody A outer s H vs Q E (hr.deeper _) hsp
  have I : Inv (cxOf CX P w K mg base N qual scope f cdv A outer s H E) [] (start N vs) H s1 := inv_start S hr.hd e0 hl r x
  refine wpAny_mono (ht [] s1 (start N vs) H _ I hq) (fun fl s' hs => ?_) fun e s' hs => hs
  have fin : ∀ {σ' : St} {H' : Hp} {v : V} {u : Value}, Inv (cxOf CX P w K mg base N qual scope f cdv A outer s H E) [] σ' H' s' → RelV v u → Q v H' → CE outer P w H s Q u s' :=
    fun {σ' H' v u} J rv q => ⟨v, H', J.os, J.bare, J.base, J.hok, rv, q⟩
  cases fl with
  | ret u =>
    obtain ⟨v, σ', H', J, rv, q⟩ := hs
    exact fin J rv q
  | next =>
    obtain ⟨σ', H', J, q⟩ := hs
    exact fin (v := V.non) (u := Value.none) J rfl q
  | brk =>
    obtain ⟨_, _, _, q⟩ := hs
    exact False.elim q
  | cont =>
    obtain ⟨_, _, _, q⟩ := hs
    exact False.elim q
end L2

namespace L2
open PySem PySem.Spec PyProof.Rows
section
variable {X : Cx} {x : Str} {p pos : Pos} {e : Expr} {es : List Expr} {t : TA} {id T : String} {r : List V → Hp → VK → Prop}

def tCB (r : List V → Hp → VK → Prop) (t : TA) : TE := fun σ H Q => t σ H fun vs H1 => r vs H1 Q
/-- f(e, ..), f a built-in function -/
theorem pe_callB (hc : CallR X (.builtin id) r) (hg : Gl X x) (hm : X.mg x = none) (hv : bootBuiltins x = some (.builtin id)) (ha : PA X (e :: es) t) (hn : x ≠ "__name__" := by decide) (hdb : (x == ("__debug__" : Str)) = false := by decide)
    (he : starEach (e :: es) X.env = (false, eval e X.env) :: starEach es X.env := by rfl) (hpl : (backTo pos (starEach es X.env)).any (·.1) = false := by rfl) : PE X (.Call (.Name x p) (e :: es) [] pos) (tCB r t) := by
  intro pins s σ H Q I h
  refine wpAny_Call_Name_kw (ld_blt I hg hm hv ?_ hn hdb)
  exact PyProof.Rows.callWith_builtin1 (thn (ha pos pins s σ H _ I h) fun us s1 ⟨vs, H1, I1, r1, q1⟩ => hc pins s1 σ H1 vs us Q I1 r1 q1) he hpl
/-- T(e, ..), T a built-in type -/
theorem pe_callTy (hc : CallR X (.type T) r) (hg : Gl X x) (hm : X.mg x = none) (hv : bootBuiltins x = some (.type T)) (ha : PA X (e :: es) t) (hn : x ≠ "__name__" := by decide) (hdb : (x == ("__debug__" : Str)) = false := by decide)
    (he : starEach (e :: es) X.env = (false, eval e X.env) :: starEach es X.env := by rfl) (hpl : (backTo pos (starEach es X.env)).any (·.1) = false := by rfl) : PE X (.Call (.Name x p) (e :: es) [] pos) (tCB r t) := by
  intro pins s σ H Q I h
  refine wpAny_Call_Name_kw (ld_blt I hg hm hv ?_ hn hdb)
  exact PyProof.Rows.callWith_type1 (thn (ha pos pins s σ H _ I h) fun us s1 ⟨vs, H1, I1, r1, q1⟩ => hc pins s1 σ H1 vs us Q I1 r1 q1) he hpl
end
end L2

namespace HT
open PySem PyProof.Rows

section
open PySem.SeqAt
open PySem.AutoSeq1 (wpAny_loadPart')
open PySem.MeetsSeq PySem.MeetsSeq2 PySem.MeetsSeq3

end

section
variable {prog : Program} {w : World} {A : Around} {E : Value → Shared → Prop} {s : Shared}

/-! ### t[a:b], not the whole -/
/-- a slice's bound as a place among n (d where it is left out) -/
def sIx (n d : Nat) : Option Int → Nat
  | none => d
  | some v => if v < 0 then (v + (n : Int)).toNat else min v.toNat n
theorem sIx_none (n d : Nat) : sIx n d none = d := rfl
end
end HT

namespace L2
open PySem PySem.Spec PyProof.Rows

/-! ### the parts of a slice -/
abbrev TO := St → Hp → (Option Int → Hp → Prop) → Prop
/-- a slice's part (left out, or an int) -/
def PO (X : Cx) (e : Option Expr) (t : TO) : Prop :=
  ∀ (pins : List (Addr × Obj)) (s : Shared) (σ : St) (H : Hp) (Q : Option Int → Hp → Prop), Inv X pins σ H s → t σ H Q →
    wpAny (model X.prog X.w) X.A (evalPart e X.env) (fun u s' => ∃ o H', Inv X pins σ H' s' ∧ IsPart u o ∧ Q o H') X.xe s
def tNoPart : TO := fun _ H Q => Q none H
def tPart (t : TE) : TO := fun σ H Q => t σ H fun x H1 => ∃ i, x = .int i ∧ Q (some i) H1

section
variable {X : Cx} {e : Expr} {te : TE} {lo hi : Option Expr} {tl th : TO} {pos p2 : Pos}

theorem po_none : PO X none tNoPart := by
  intro pins s σ H Q I h
  rw [evalPart_none]
  exact wpAny_pure ⟨none, H, I, .none, h⟩
theorem po_some (h : PE X e te) : PO X (some e) (tPart te) := by
  intro pins s σ H Q I hw
  rw [evalPart_some]
  refine thn (h pins s σ H _ I hw) fun u s1 ⟨x, H1, I1, r1, q1⟩ => ?_
  obtain ⟨i, rfl, q⟩ := q1
  obtain ⟨t, rfl⟩ := r1
  exact ⟨some i, H1, I1, .int i t, q⟩

/-- what a slice of a value is, by values: the slice object stands at sl -/
def SlR (X : Cx) (r : V → Option Int → Option Int → Hp → VK → Prop) : Prop :=
  ∀ (pins : List (Addr × Obj)) (s : Shared) (σ : St) (H : Hp) (x : V) (v vl vu : Value) (lo hi : Option Int) (sl : Addr) (Q : VK), Inv X pins σ H s → RelV x v → s.heap.IsSliceOf sl vl vu .none → IsPart vl lo → IsPart vu hi → r x lo hi H Q →
    ∃ T id, typeLookup (.type T) "__getitem__" = pure (some (.builtin id)) ∧ s.TypeIs v T ∧ wpAny (model X.prog X.w) X.A (getItem v (.ref sl)) (EP X pins σ Q) X.xe s
theorem SlR.or {r r' : V → Option Int → Option Int → Hp → VK → Prop} (h : SlR X r) (h' : SlR X r') : SlR X (fun x lo hi H Q => r x lo hi H Q ∨ r' x lo hi H Q) := by
  intro pins s σ H x v vl vu lo hi sl Q I rx hs pl pu q
  rcases q with q | q
  · exact h pins s σ H x v vl vu lo hi sl Q I rx hs pl pu q
  · exact h' pins s σ H x v vl vu lo hi sl Q I rx hs pl pu q
def tSl (r : V → Option Int → Option Int → Hp → VK → Prop) (te : TE) (tl th : TO) : TE := fun σ H Q => te σ H fun x H1 => tl σ H1 fun l H2 => th σ H2 fun u H3 => r x l u H3 Q
/-- a[lo:hi], any a -/
theorem pe_slice {r : V → Option Int → Option Int → Hp → VK → Prop} (hr : SlR X r) (he : PE X e te) (hl : PO X lo tl) (hu : PO X hi th) : PE X (.Subscript e (.Slice lo hi none p2) pos) (tSl r te tl th) := by
  intro pins s σ H Q I h
  refine Subscript_ (thn (he pins s σ H _ I h) fun v s1 ⟨x, H1, I1, r1, q1⟩ => ?_)
  refine wpAny_Slice (thn (hl pins s1 σ H1 _ I1 q1) fun vl s2 ⟨l, H2, I2, pl, q2⟩ => thn (hu pins s2 σ H2 _ I2 q2) fun vu s3 ⟨u, H3, I3, pu, q3⟩ => ?_)
  rw [evalPart_none]
  refine wpAny_pure ?_
  have I4 : Inv X pins σ H3 { s3 with heap := s3.heap.push { cls := .type "slice", data := .fields #[vl, vu, .none] } } := I3.kept (t' := s3.toks) fun b ob q => Heap.get?_push_of_some _ q
  obtain ⟨T, id, hT, ht, hg⟩ := hr pins { s3 with heap := s3.heap.push { cls := .type "slice", data := .fields #[vl, vu, .none] } } σ H3 x v vl vu l u s3.heap.objs.size Q I4 r1 (Heap.IsSliceOf.new ..) pl pu q3
  show wpAny (model X.prog X.w) X.A (subscriptTail e (.Slice lo hi none p2) v (.ref s3.heap.objs.size)) (EP X pins σ Q) X.xe { s3 with heap := s3.heap.push { cls := .type "slice", data := .fields #[vl, vu, .none] } }
  exact tail_any (ops := [.ref s3.heap.objs.size, v]) ht hT hg (by with_unfolding_all rfl)

/-- the items of xs[lo:hi] -/
def cutV (xs : List V) (lo hi : Option Int) : List V := (xs.drop (HT.sIx xs.length 0 lo)).take (HT.sIx xs.length xs.length hi - HT.sIx xs.length 0 lo)
theorem cutV_length (xs : List V) (lo hi : Option Int) : (cutV xs lo hi).length ≤ xs.length := by
  unfold cutV
  rw [List.length_take, List.length_drop]
  omega
/-! ### t < u, t + u -/
end
end L2

namespace L2
open PySem PySem.Spec PyProof.Rows

/-! ### places -/
/-- the place that an index of any sign means -/
def ixN (n : Nat) (i : Int) : Option Nat := if 0 ≤ i then (if i < n then some i.toNat else none) else if -(n : Int) ≤ i then some (i + n).toNat else none
def atI {α : Type} (xs : List α) (i : Int) : Option α := (ixN xs.length i).bind fun j => xs[j]?
theorem ixN_seq {n : Nat} {i : Int} {j : Nat} (h : ixN n i = some j) : seqIndex? i n = some j ∧ j < n ∧ -(n : Int) ≤ i ∧ i < n := by
  unfold ixN at h
  by_cases h0 : 0 ≤ i
  · rw [if_pos h0] at h
    by_cases h1 : i < n
    · rw [if_pos h1] at h
      have e : i.toNat = j := Option.some.inj h
      exact ⟨by rw [seqIndex_of h0 h1, e], by omega, by omega, h1⟩
    · rw [if_neg h1] at h; cases h
  · rw [if_neg h0] at h
    by_cases h1 : -(n : Int) ≤ i
    · rw [if_pos h1] at h
      have e : (i + n).toNat = j := Option.some.inj h
      exact ⟨by rw [seqIndex_neg (by omega) h1, e], by omega, h1, by omega⟩
    · rw [if_neg h1] at h; cases h
theorem atI_get {α : Type} {xs : List α} {i : Int} {v : α} (h : atI xs i = some v) : ∃ j, seqIndex? i xs.length = some j ∧ xs[j]? = some v ∧ j < xs.length ∧ -(xs.length : Int) ≤ i ∧ i < xs.length := by
  unfold atI at h
  cases e : ixN xs.length i with
  | none => rw [e] at h; cases h
  | some j =>
    rw [e] at h
    obtain ⟨h1, h2, h3, h4⟩ := ixN_seq e
    exact ⟨j, h1, h, h2, h3, h4⟩
theorem atI_nat {α : Type} {xs : List α} {j : Nat} {v : α} (h : xs[j]? = some v) : atI xs (j : Int) = some v := by
  have hj : j < xs.length := (List.getElem?_eq_some_iff.mp h).1
  have e : ixN xs.length (j : Int) = some j := by
    unfold ixN
    rw [if_pos (by omega), if_pos (by omega)]; simp
  unfold atI; rw [e]; exact h
/-! ### what may be subscripted -/
/-- what stands as an index of a plain subscript -/
def PlainIx (b : Expr) : Prop := ∀ o i, subscripted b false o i = operate [o, i] (getItem o i)
/-- a subscript by values -/
def IxR (X : Cx) (r : R2) : Prop :=
  ∀ (value slice : Expr) (pins : List (Addr × Obj)) (s : Shared) (σ : St) (H : Hp) (x y : V) (v u : Value) (Q : VK), Inv X pins σ H s → RelV x v → RelV y u → r x y H Q →
    subscripted slice false v u = operate [v, u] (getItem v u) → wpAny (model X.prog X.w) X.A (subscriptTail value slice v u) (EP X pins σ Q) X.xe s
/-- a call of a builtin's method by values: the receiver, the arguments -/
def MtR (X : Cx) (id : String) (r : V → List V → Hp → VK → Prop) : Prop :=
  ∀ (pins : List (Addr × Obj)) (s : Shared) (σ : St) (H : Hp) (x : V) (xs : List V) (v : Value) (us : List Value) (Q : VK), Inv X pins σ H s → RelV x v → Vals xs us → r x xs H Q →
    wpAny (model X.prog X.w) X.A (call (.builtin id) (v :: us)) (EP X pins σ Q) X.xe s
section
variable {X : Cx} {a b : Expr} {ta tb : TE} {pos : Pos}
theorem IxR.or {r r' : R2} (h : IxR X r) (h' : IxR X r') : IxR X (fun x y H Q => r x y H Q ∨ r' x y H Q) := by
  intro value slice pins s σ H x y v u Q I rx ry q hs
  rcases q with q | q
  · exact h value slice pins s σ H x y v u Q I rx ry q hs
  · exact h' value slice pins s σ H x y v u Q I rx ry q hs
theorem MtR.or {id : String} {r r' : V → List V → Hp → VK → Prop} (h : MtR X id r) (h' : MtR X id r') : MtR X id (fun x xs H Q => r x xs H Q ∨ r' x xs H Q) := by
  intro pins s σ H x xs v us Q I rx rs q
  rcases q with q | q
  · exact h pins s σ H x xs v us Q I rx rs q
  · exact h' pins s σ H x xs v us Q I rx rs q
/-- a[b] -/
theorem pe_ix {r : R2} (hr : IxR X r) (ha : PE X a ta) (hb : PE X b tb) (hs : PlainIx b) : PE X (.Subscript a b pos) (tOp r ta tb) := by
  intro pins s σ H Q I h
  exact Subscript_ (binT ha hb I h fun v u s2 x y H2 I2 rx ry q => hr a b pins s2 σ H2 x y v u Q I2 rx ry q (hs _ _))

def rIxL (K : PySem.W.Frag) : R2 := fun x y H Q => ∃ p xs i v, x = .ref p ∧ y = .int i ∧ SqL K H p xs ∧ atI xs i = some v ∧ Q v H
def rIxT (K : PySem.W.Frag) : R2 := fun x y H Q => ∃ p xs i v, x = .ref p ∧ y = .int i ∧ SqT K H p xs ∧ atI xs i = some v ∧ Q v H
theorem ix_list : IxR X (rIxL X.K) := by
  intro value slice pins s σ H x y v u Q I rx ry h hs
  obtain ⟨p, xs, i, z, rfl, rfl, hq, he, q⟩ := h
  cases rx
  obtain ⟨t, rfl⟩ := ry
  obtain ⟨its, r, pl, hz⟩ := I.list hq
  obtain ⟨j, h1, h2, h3, h4, h5⟩ := atI_get he
  obtain ⟨w, ew, rw'⟩ := r.get h2
  have hl := r.length
  have hn := line63
  have fin : EP X pins σ Q w s := ⟨z, H, I, rw', q⟩
  by_cases h0 : 0 ≤ i
  · have hj : i.toNat = j := by
      rw [seqIndex_of h0 h5] at h1
      exact Option.some.inj h1
    exact item_listR pl.isList h0 (by omega) (by rw [hj]; simpa using ew) fin hs
  · have hj : (i + (its.toArray.size : Int)).toNat = j := by
      rw [seqIndex_neg (by omega) h4] at h1
      rw [List.size_toArray, ← hl]
      exact Option.some.inj h1
    exact subscriptTail_builtinR (x := w) pl.isList.typeIs slot_list_getitem.lookup
      (wpAny_getItem_list_neg (Q := fun r s' => r = w ∧ EP X pins σ Q r s') pl.isList (by omega) (by rw [List.size_toArray] <;> omega) (by omega) (by rw [hj]; simpa using ew) ⟨rfl, fin⟩) hs
theorem ix_tup : IxR X (rIxT X.K) := by
  intro value slice pins s σ H x y v u Q I rx ry h hs
  obtain ⟨p, xs, i, z, rfl, rfl, hq, he, q⟩ := h
  cases rx
  obtain ⟨t, rfl⟩ := ry
  obtain ⟨its, r, pl, hz⟩ := I.tuple hq
  obtain ⟨j, h1, h2, h3, h4, h5⟩ := atI_get he
  obtain ⟨w, ew, rw'⟩ := r.get h2
  have hl := r.length
  have hn := line63
  have fin : EP X pins σ Q w s := ⟨z, H, I, rw', q⟩
  exact subscriptTail_builtinR (x := w) pl.typeIs slot_tuple_getitem.lookup
    (getItem_tuple (j := j) (Q := fun r s' => r = w ∧ EP X pins σ Q r s') pl (by omega) (by omega) (by rw [List.size_toArray, ← hl]; exact h1) (by simpa using ew) ⟨rfl, fin⟩) hs
/-! ### xs[i] = v, any sign -/
/-- the list's object behind a store -/
theorem mapSeq_set (its : List Value) (n j : Nat) (u : Value) : Obj.mapSeq (·.setIfInBounds j u) { cls := .type "list", data := .seq its.toArray n } = { cls := .type "list", data := .seq (its.set j u).toArray n } := by
  simp [Obj.mapSeq]
theorem Inv.lst {pins : List (Addr × Obj)} {σ : St} {H : Hp} {s : Shared} {p : Addr} {xs : List V} (I : Inv X pins σ H s) (h : H p = some (.lst xs)) :
    ∃ (its : List Value) (n : Nat), Vals xs its ∧ s.heap.get? p = some { cls := .type "list", data := .seq its.toArray n } ∧ xs.length ≤ sizeLine := by
  obtain ⟨z, its, n, r, e⟩ := I.hok p _ h
  exact ⟨its, n, r, e, z⟩
/-- the list at p is written by an update of its object -/
theorem Inv.lstUpd {pins : List (Addr × Obj)} {σ : St} {H : Hp} {s : Shared} {p : Addr} {xs ys : List V} {its its' : List Value} {n n' : Nat} {f : Obj → Obj} (I : Inv X pins σ H s) (h : H p = some (.lst xs))
    (ho : s.heap.get? p = some { cls := .type "list", data := .seq its.toArray n }) (hf : f { cls := .type "list", data := .seq its.toArray n } = { cls := .type "list", data := .seq its'.toArray n' }) (r : Vals ys its') (hz : ys.length ≤ sizeLine) (t : Nat) :
    Inv X pins σ (upd H p (.lst ys)) { s with heap := s.heap.update p f, toks := t } := by
  have e : (s.heap.update p f).get? p = some { cls := .type "list", data := .seq its'.toArray n' } := by
    rw [Heap.get?_update_self f ho (by rw [hf] <;> rfl), hf]
  refine I.write (x := p) (e := p) (by rw [h]; trivial) (.inl rfl) (fun b u hb q => (Heap.get?_update_other _ _ (Ne.symm hb)).trans q) ⟨_, e⟩ ?_
  exact ⟨hz, its', n', r, e⟩
def rSetL : V → V → V → Hp → (Hp → Prop) → Prop := fun o i v H Q => ∃ p xs k j, o = .ref p ∧ i = .int k ∧ H p = some (.lst xs) ∧ ixN xs.length k = some j ∧ Q (upd H p (.lst (xs.set j v)))
theorem set_list : PSet X rSetL := by
  intro pins s σ H o i v ov iv u Q I ro ri rv h
  obtain ⟨p, xs, k, j, rfl, rfl, hp, hj, q⟩ := h
  cases ro
  obtain ⟨t, rfl⟩ := ri
  obtain ⟨its, n, r, ho, hz⟩ := I.lst hp
  obtain ⟨h1, h2, h3, h4⟩ := ixN_seq hj
  have hl := r.length
  have hn := line63
  have I' : Inv X pins σ (upd H p (.lst (xs.set j v))) { s with heap := s.heap.update p (Obj.mapSeq (·.setIfInBounds j u)) } :=
    I.lstUpd hp ho (mapSeq_set its n j u) (r.set rv j) (by rw [List.length_set]; exact hz) s.toks
  by_cases h0 : 0 ≤ k
  · have hk : k.toNat = j := by
      rw [seqIndex_of h0 h4] at h1
      exact Option.some.inj h1
    exact PySem.W.ki_setAt ho h0 (by omega) (by rw [List.size_toArray, ← hl]; exact h4) (by rw [hk]; exact ⟨_, I', q⟩)
  · have hk : (k + (its.toArray.size : Int)).toNat = j := by
      rw [seqIndex_neg (by omega) h3] at h1
      rw [List.size_toArray, ← hl]
      exact Option.some.inj h1
    exact PySem.W.ki_setBack ho (by omega) (by rw [List.size_toArray, ← hl]; exact h3) (by omega) (by rw [hk]; exact ⟨_, I', q⟩)

/-! ### slices -/
theorem slice_bounds (lo hi : Option Int) (n : Nat) : (sliceBounds lo hi none n).1 = ((HT.sIx n 0 lo : Nat) : Int) ∧ (sliceBounds lo hi none n).2.1 = ((HT.sIx n n hi : Nat) : Int) ∧ (sliceBounds lo hi none n).2.2 = 1 := by
  refine ⟨?_, ?_, rfl⟩
  · cases lo with
    | none => simp [sliceBounds, HT.sIx]
    | some i =>
      simp only [sliceBounds, HT.sIx, Option.getD_none, show (1 : Int) > 0 by decide, if_true]
      by_cases h : i < 0
      · simp only [h, if_true] <;> omega
      · simp only [h, if_false] <;> omega
  · cases hi with
    | none => simp [sliceBounds, HT.sIx]
    | some i =>
      simp only [sliceBounds, HT.sIx, Option.getD_none, show (1 : Int) > 0 by decide, if_true]
      by_cases h : i < 0
      · simp only [h, if_true] <;> omega
      · simp only [h, if_false] <;> omega
theorem slicePick_cut (its : List Value) (lo hi : Option Int) : slicePick its.toArray lo hi none = ((its.drop (HT.sIx its.length 0 lo)).take (HT.sIx its.length its.length hi - HT.sIx its.length 0 lo)).toArray := by
  obtain ⟨h1, h2, h3⟩ := slice_bounds lo hi its.toArray.size
  unfold slicePick
  rw [h1, h2, h3]
  simp only [sliceRange_one, pick_run, List.size_toArray] <;> rfl
/-- xs[lo:hi] of a list: a new list -/
def rSlL (K : PySem.W.Frag) : V → Option Int → Option Int → Hp → VK → Prop := fun x lo hi H Q => ∃ a xs, x = .ref a ∧ SqL K H a xs ∧ ∀ p, H p = none → Q (.ref p) (upd H p (.lst (cutV xs lo hi)))
theorem sl_list : SlR X (rSlL X.K) := by
  intro pins s σ H x v vl vu lo hi sl Q I rx hs pl pu h
  obtain ⟨a, xs, rfl, hx, q⟩ := h
  cases rx
  obtain ⟨its, r, ht, hz⟩ := I.list hx
  have hlen := r.length
  refine ⟨"list", _, slot_list_getitem.lookup, ht.isList.typeIs, ?_⟩
  refine wpAny_getItem_list_slice ht.isList hs pl pu .none (by simp) ?_ (by rw [List.size_toArray] <;> omega)
  rw [slicePick_cut, ← hlen]
  refine ⟨.ref s.heap.objs.size, _, I.laid (t' := s.toks) (o := .lst (cutV xs lo hi)) (fun b ob q => Heap.get?_push_of_some _ q) (Nat.le_refl _) ?_, rfl, q _ (I.hok.fresh (Nat.le_refl _))⟩
  exact ⟨Nat.le_trans (cutV_length xs lo hi) hz, _, 0, (r.drop (HT.sIx xs.length 0 lo)).take (HT.sIx xs.length xs.length hi - HT.sIx xs.length 0 lo), Heap.get?_push_size _ rfl⟩

/-! ### in, not in: flat items -/
def flatV : V → Bool
  | .non => true
  | .bl _ => true
  | .int _ => true
  | .str _ => true
  | _ => false
/-- == of flat values -/
def eqV : V → V → Bool
  | .non, .non => true
  | .bl a, .bl b => a == b
  | .bl a, .int b => (if a then 1 else 0) == b
  | .int a, .bl b => a == (if b then 1 else 0)
  | .int a, .int b => a == b
  | .str a, .str b => a == b
  | _, _ => false
theorem eqAt_V {A : Around} {s : Shared} {y x : V} {u v : Value} (ry : RelV y u) (rx : RelV x v) (fy : flatV y = true) (fx : flatV x = true) : SeqAt.EqAt A s u v (eqV y x) := by
  cases y with
  | non =>
    cases ry
    cases x with
    | non => cases rx; exact SeqAt.EqAt.same _
    | bl b => cases rx; exact SeqAt.EqAt.none_bool b
    | int b => obtain ⟨t, rfl⟩ := rx; exact SeqAt.EqAt.none_int b t
    | str b => obtain ⟨t, rfl⟩ := rx; exact SeqAt.EqAt.none_str b t
    | _ => exact absurd (show false = true from fx) Bool.false_ne_true
  | bl a =>
    cases ry
    cases x with
    | non => cases rx; exact SeqAt.EqAt.bool_none a
    | bl b => cases rx; exact SeqAt.EqAt.bool_bool a b
    | int b => obtain ⟨t, rfl⟩ := rx; exact SeqAt.EqAt.bool_int a b t
    | str b => obtain ⟨t, rfl⟩ := rx; exact SeqAt.EqAt.bool_str a b t
    | _ => exact absurd (show false = true from fx) Bool.false_ne_true
  | int a =>
    obtain ⟨t', rfl⟩ := ry
    cases x with
    | non => cases rx; exact SeqAt.EqAt.int_none a t'
    | bl b => cases rx; exact SeqAt.EqAt.int_bool a t' b
    | int b => obtain ⟨t, rfl⟩ := rx; exact SeqAt.EqAt.int_int a t' b t
    | str b => obtain ⟨t, rfl⟩ := rx; exact SeqAt.EqAt.int_str a t' b t
    | _ => exact absurd (show false = true from fx) Bool.false_ne_true
  | str a =>
    obtain ⟨t', rfl⟩ := ry
    cases x with
    | non => cases rx; exact SeqAt.EqAt.str_none a t'
    | bl b => cases rx; exact SeqAt.EqAt.str_bool a t' b
    | int b => obtain ⟨t, rfl⟩ := rx; exact SeqAt.EqAt.str_int a t' b t
    | str b => obtain ⟨t, rfl⟩ := rx; exact SeqAt.EqAt.str_str a t' b t
    | _ => exact absurd (show false = true from fx) Bool.false_ne_true
  | _ => exact absurd (show false = true from fy) Bool.false_ne_true
/-- the items' answers, read off the values (a value's own answer does not lean on its token) -/
def eqU (x : V) (u : Value) : Bool := match u with
  | .none => eqV .non x
  | .bool b => eqV (.bl b) x
  | .int i _ => eqV (.int i) x
  | .str z _ => eqV (.str z) x
  | _ => false
theorem eqU_of {x y : V} {u : Value} (r : RelV y u) (f : flatV y = true) : eqU x u = eqV y x := by
  cases y with
  | non => cases r; rfl
  | bl b => cases r; rfl
  | int i => obtain ⟨t, rfl⟩ := r; rfl
  | str z => obtain ⟨t, rfl⟩ := r; rfl
  | _ => exact absurd (show false = true from f) Bool.false_ne_true
theorem any_eqU {x : V} : ∀ {xs : List V} {us : List Value}, Vals xs us → xs.all flatV = true → us.any (eqU x) = xs.any fun y => eqV y x
  | _, _, .nil, _ => rfl
  | y :: xs, u :: us, .cons r t, f => by
    rw [List.all_cons, Bool.and_eq_true] at f
    rw [List.any_cons, List.any_cons, eqU_of r f.1, any_eqU t f.2]
theorem mem_eqAt {A : Around} {s : Shared} {x : V} {v : Value} (rx : RelV x v) (fx : flatV x = true) : ∀ {xs : List V} {us : List Value}, Vals xs us → xs.all flatV = true → ∀ u ∈ us, SeqAt.EqAt A s u v (eqU x u)
  | _, _, .nil, _ => fun u hu => by cases hu
  | y :: xs, u :: us, .cons r t, f => fun u' hu => by
    rw [List.all_cons, Bool.and_eq_true] at f
    rcases List.mem_cons.mp hu with rfl | hu
    · rw [eqU_of r f.1]; exact eqAt_V r rx f.1 fx
    · exact mem_eqAt rx fx t f.2 u' hu
def inV (x : V) (xs : List V) : Bool := xs.any fun y => eqV y x
/-- x in a list or tuple of flat items -/
def rIn (K : PySem.W.Frag) (neg : Bool) : R2 := fun x y H Q => ∃ p xs, y = .ref p ∧ (SqL K H p xs ∨ SqT K H p xs) ∧ flatV x = true ∧ xs.all flatV = true ∧ Q (.bl (if neg then !inV x xs else inV x xs)) H
theorem op_in_seq : OpR X (compareOp .In) (rIn X.K false) := by
  intro pins s σ H x y v u Q I rx ry h
  obtain ⟨p, xs, rfl, hq, fx, fs, q⟩ := h
  cases ry
  rcases hq with hq | hq
  · obtain ⟨its, r, pl, hz⟩ := I.list hq
    refine SeqAt.in_listAt (eqU x) pl.isList (fun w hw => mem_eqAt rx fx r fs w (by simpa using hw)) ⟨.bl _, H, I, rfl, ?_⟩
    rw [show its.toArray.any (eqU x) = its.any (eqU x) by simp, any_eqU r fs]
    exact q
  · obtain ⟨its, r, pl, hz⟩ := I.tuple hq
    refine SeqAt.in_tupleAt (eqU x) pl (fun w hw => mem_eqAt rx fx r fs w (by simpa using hw)) ⟨.bl _, H, I, rfl, ?_⟩
    rw [show its.toArray.any (eqU x) = its.any (eqU x) by simp, any_eqU r fs]
    exact q
theorem op_notIn_seq : OpR X (compareOp .NotIn) (rIn X.K true) := by
  intro pins s σ H x y v u Q I rx ry h
  obtain ⟨p, xs, rfl, hq, fx, fs, q⟩ := h
  cases ry
  rcases hq with hq | hq
  · obtain ⟨its, r, pl, hz⟩ := I.list hq
    refine SeqAt.notIn_listAt (eqU x) pl.isList (fun w hw => mem_eqAt rx fx r fs w (by simpa using hw)) ⟨.bl _, H, I, rfl, ?_⟩
    rw [show its.toArray.any (eqU x) = its.any (eqU x) by simp, any_eqU r fs]
    exact q
  · obtain ⟨its, r, pl, hz⟩ := I.tuple hq
    refine SeqAt.notIn_tupleAt (eqU x) pl (fun w hw => mem_eqAt rx fx r fs w (by simpa using hw)) ⟨.bl _, H, I, rfl, ?_⟩
    rw [show its.toArray.any (eqU x) = its.any (eqU x) by simp, any_eqU r fs]
    exact q
/-! ### len, list(x), tuple(x) of any list or tuple that is read -/
theorem call_len_seq : CallR X (.builtin "len") (fun xs H Q => ∃ p ys, xs = [.ref p] ∧ (SqL X.K H p ys ∨ SqT X.K H p ys) ∧ Q (.int ys.length) H) := by
  intro pins s σ H xs us Q I r h
  obtain ⟨p, ys, rfl, hq, q⟩ := h
  obtain ⟨u, rfl, rx⟩ := vals1 r
  cases rx
  have hn := line63
  rcases hq with hq | hq
  · obtain ⟨its, r', pl, hz⟩ := I.list hq
    have hlen := r'.length
    exact Calls.call_len_list pl.isList (by simp only [List.size_toArray] <;> omega) ⟨.int ys.length, H, I.tok _, ⟨s.toks + 1, by rw [List.size_toArray, hlen]⟩, q⟩
  · obtain ⟨its, r', pl, hz⟩ := I.tuple hq
    have hlen := r'.length
    exact len_tuple pl (by simp only [List.size_toArray] <;> omega) ⟨.int ys.length, H, I.tok _, ⟨s.toks + 1, by rw [List.size_toArray, hlen]⟩, q⟩
theorem CallR.or {f : Value} {r r' : List V → Hp → VK → Prop} (h : CallR X f r) (h' : CallR X f r') : CallR X f (fun xs H Q => r xs H Q ∨ r' xs H Q) := by
  intro pins s σ H xs us Q I rs q
  rcases q with q | q
  · exact h pins s σ H xs us Q I rs q
  · exact h' pins s σ H xs us Q I rs q
theorem call_list_of : CallR X (.type "list") (fun xs H Q => ∃ p ys, xs = [.ref p] ∧ (SqL X.K H p ys ∨ SqT X.K H p ys) ∧ ∀ l, H l = none → Q (.ref l) (upd H l (.lst ys))) := by
  intro pins s σ H xs us Q I r h
  obtain ⟨p, ys, rfl, hq, q⟩ := h
  obtain ⟨u, rfl, rx⟩ := vals1 r
  cases rx
  have fin : ∀ (its : List Value), Vals ys its → ys.length ≤ sizeLine → ∀ (h' : Heap) (c' : Nat), (∀ b o', s.heap.get? b = some o' → h'.get? b = some o') →
      h'.get? s.heap.objs.size = some { cls := .type "list", dict := none, data := .seq its.toArray c', slots := #[] } → EP X pins σ Q (.ref s.heap.objs.size) { s with heap := h' } := fun its r' hz h' c' kp e =>
    ⟨.ref s.heap.objs.size, _, I.laid (t' := s.toks) kp (Nat.le_refl _) (show ObjOk X.prog X.w _ h' _ (.lst ys) from ⟨hz, its, c', r', e⟩), rfl, q _ (I.hok.fresh (Nat.le_refl _))⟩
  rcases hq with hq | hq
  · obtain ⟨its, r', pl, hz⟩ := I.list hq
    have hlen := r'.length
    obtain ⟨o, ho, hc, n, hd⟩ := pl.isList
    exact call_list_seq p (.inl rfl) ho hc hd (fun h' c' kp e => fin its r' hz h' c' kp e) (by simp only [List.size_toArray] <;> omega)
  · obtain ⟨its, r', pl, hz⟩ := I.tuple hq
    have hlen := r'.length
    obtain ⟨o, ho, hc, n, hd⟩ := pl
    exact call_list_seq p (.inr rfl) ho hc hd (fun h' c' kp e => fin its r' hz h' c' kp e) (by simp only [List.size_toArray] <;> omega)
/-! ### the call of a builtin's method: o.m(..) -/
/-- the value is of that builtin type -/
def tyV (K : PySem.W.Frag) (T : String) (x : V) (H : Hp) : Prop := match x with
  | .str _ => T = "str"
  | .int _ => T = "int"
  | .ref p => (T = "list" ∧ ∃ xs, SqL K H p xs) ∨ (T = "tuple" ∧ ∃ o, K.lookup p = some o ∧ o.cls = .type "tuple" ∧ o.dict = none) ∨
      (T = "dict" ∧ ((∃ kvs, H p = some (.dK kvs)) ∨ ∃ kvs, H p = some (.dT kvs))) ∨ (T = "set" ∧ ∃ S n, H p = some (.set S n))
  | _ => False
theorem tyV_is {pins : List (Addr × Obj)} {σ : St} {H : Hp} {s : Shared} {T : String} {x : V} {v : Value} (I : Inv X pins σ H s) (r : RelV x v) (ty : tyV X.K T x H) :
    s.TypeIs v T ∧ ∀ a, v = .ref a → ∃ ob, s.heap.get? a = some ob ∧ ob.dict = none := by
  cases x with
  | str z =>
    obtain ⟨t, rfl⟩ := r
    cases (show T = "str" from ty)
    exact ⟨typeIs_str s z t, fun _ e => nomatch e⟩
  | int i =>
    obtain ⟨t, rfl⟩ := r
    cases (show T = "int" from ty)
    exact ⟨typeIs_int s i t, fun _ e => nomatch e⟩
  | ref p =>
    cases r
    rcases ty with ⟨rfl, xs, hq⟩ | ⟨rfl, o, hk, hc, hd⟩ | ⟨rfl, hk⟩ | ⟨rfl, S, n, hk⟩
    · obtain ⟨its, _, pl, _⟩ := I.list hq
      refine ⟨pl.isList.typeIs, fun a e => ?_⟩
      cases e
      obtain ⟨o, n, e, c, hd, _⟩ := pl
      exact ⟨o, e, hd⟩
    · refine ⟨⟨o, I.kIn p o hk, hc⟩, fun a e => ?_⟩
      cases e
      exact ⟨o, I.kIn _ o hk, hd⟩
    · have z : ∃ o, s.heap.get? p = some o ∧ o.ExactDict := by
        rcases hk with ⟨kvs, hk⟩ | ⟨kvs, hk⟩
        · obtain ⟨_, _, _, _, o, _, _, e, ex, _⟩ := I.hok p _ hk
          exact ⟨o, e, ex⟩
        · obtain ⟨_, _, _, _, o, _, _, e, ex, _⟩ := I.hok p _ hk
          exact ⟨o, e, ex⟩
      obtain ⟨o, e, ex⟩ := z
      refine ⟨⟨o, e, ex.1⟩, fun a e2 => ?_⟩
      cases e2
      exact ⟨o, e, ex.2.1⟩
    · obtain ⟨o, _, _, _, e, ex, _⟩ := I.hok p _ hk
      refine ⟨⟨o, e, ex.1⟩, fun a e2 => ?_⟩
      cases e2
      exact ⟨o, e, ex.2.1⟩
  | _ => exact False.elim ty
def tBM (K : PySem.W.Frag) (T : String) (r : V → List V → Hp → VK → Prop) (to : TE) (t : TA) : TE := fun σ H Q => to σ H fun x H1 => tyV K T x H1 ∧ t σ H1 fun xs H2 => r x xs H2 Q
variable {o e : Expr} {es : List Expr} {to : TE} {t : TA} {name : Str} {apos cpos : Pos} {T id : String} {r : V → List V → Hp → VK → Prop}
theorem pe_bm (pa : PlainAttrs T) (slot : Slot T name id) (hty : typeOf (.builtin id) = pure (.type "method_descriptor")) (hm : MtR X id r) (ho : PE X o to) (ha : PA X (e :: es) t)
    (hbase : attributeBase o name X.env (eval o X.env) = eval o X.env := by rfl)
    (hfew : ((backTo cpos (starEach (e :: es) X.env)).all (fun x => !x.1) && (backToKw cpos (keywordEach [] X.env)).all (fun x => x.1.isSome)
      && decide ((e :: es).length + ([] : List Keyword).length + (if ([] : List Keyword).isEmpty then 0 else 1) < 30)) = true := by rfl)
    (hline : (apos.endLine == cpos.line) = true := by rfl) (hs : starEach (e :: es) X.env = (false, eval e X.env) :: starEach es X.env := by rfl) (hplain : (backTo cpos (starEach es X.env)).any (·.1) = false := by rfl) :
    PE X (.Call (.Attribute o name apos) (e :: es) [] cpos) (tBM X.K T r to t) := by
  intro pins s σ H Q I h
  refine wpAny_Call_method_late hbase hfew hline rfl (thn (ho pins s σ H _ I h) fun v s1 ⟨x, H1, I1, r1, ty, q1⟩ => ?_)
  obtain ⟨h1, h2⟩ := tyV_is I1 r1 ty
  refine ⟨T, id, pa, slot, hty, h1, h2, ?_⟩
  have hA := ha cpos pins s1 σ H1 _ I1 q1
  rw [hs] at hA ⊢
  refine Calls.callWith_builtin (by show (false || (backTo cpos (starEach es X.env)).any (·.1)) = false; rw [hplain] <;> rfl) (Calls.evalArgs_plain ?_)
  exact thn hA fun us s2 ⟨vs, H2, I2, r2, q2⟩ => hm pins s2 σ H2 x vs v us Q I2 r1 r2 q2
/- xs.append(e), list.index on a module's tuple .. are MtR facts of 06m -/
end
end L2

namespace L2
open PySem PySem.Spec PyProof.Rows

def MtM (X : Cx) (id : String) (r : V → List V → Hp → VK → Prop) : Prop :=
  ∀ (pins : List (Addr × Obj)) (s : Shared) (σ : St) (H : Hp) (x : V) (xs : List V) (v : Value) (us : List Value) (Q : VK), Inv X pins σ H s → RelV x v → Vals xs us → r x xs H Q →
    wpAny (model X.prog X.w) X.A (call (.builtin id) (v :: us)) (EP X pins σ Q) X.xe s

/-! ### lists of values -/
theorem Vals.one : ∀ {x : V} {us : List Value}, Vals [x] us → ∃ u, us = [u] ∧ RelV x u
  | _, _, .cons r .nil => ⟨_, rfl, r⟩
theorem Vals.two : ∀ {x y : V} {us : List Value}, Vals [x, y] us → ∃ u v, us = [u, v] ∧ RelV x u ∧ RelV y v
  | _, _, _, .cons r (.cons q .nil) => ⟨_, _, rfl, r, q⟩
theorem Vals.zero : ∀ {us : List Value}, Vals [] us → us = []
  | _, .nil => rfl
theorem Vals.dropLast {xs : List V} {us : List Value} (h : Vals xs us) : Vals xs.dropLast us.dropLast := by
  induction h with
  | nil => exact .nil
  | cons r t ih =>
    cases t with
    | nil => exact .nil
    | cons q t' => exact .cons r ih
theorem Vals.eraseIdx : ∀ {xs : List V} {us : List Value} (i : Nat), Vals xs us → Vals (xs.eraseIdx i) (us.eraseIdx i)
  | _, _, _, .nil => .nil
  | _, _, 0, .cons _ t => t
  | _, _, i + 1, .cons r t => .cons r (Vals.eraseIdx i t)
theorem Vals.rep {xs : List V} {us : List Value} (h : Vals xs us) : ∀ k : Nat, Vals (List.replicate k xs).flatten (List.replicate k us).flatten
  | 0 => .nil
  | k + 1 => by
    rw [List.replicate_succ, List.replicate_succ, List.flatten_cons, List.flatten_cons]
    exact Vals.append h (Vals.rep h k)
theorem foldl_rep (its : List Value) : ∀ (k : Nat) (acc : List Value),
    List.foldl (fun x1 x2 => x1 ++ x2) acc.toArray (List.replicate k its.toArray) = (acc ++ (List.replicate k its).flatten).toArray
  | 0, acc => by simp
  | k + 1, acc => by
    have e : acc.toArray ++ its.toArray = (acc ++ its).toArray := by simp
    have e2 : (acc ++ its) ++ (List.replicate k its).flatten = acc ++ (List.replicate (k + 1) its).flatten := by
      rw [List.replicate_succ, List.flatten_cons, List.append_assoc]
    rw [← e2, ← foldl_rep its k (acc ++ its), ← e, List.replicate_succ, List.foldl_cons]

section
variable {X : Cx} {pins : List (Addr × Obj)} {σ : St} {H : Hp} {s : Shared} {l b : Addr} {xs ys zs : List V}

/-! ### the two steps: a tracked list is rewritten, a new list is laid -/
theorem Inv.lset {its its' : List Value} {n : Nat} {f : Array Value → Array Value} {t' : Nat} (I : Inv X pins σ H s) (hH : H l = some (.lst xs))
    (e : s.heap.get? l = some { cls := .type "list", data := .seq its.toArray n }) (hf : f its.toArray = its'.toArray) (hv : Vals ys its') (hz : ys.length ≤ sizeLine) :
    Inv X pins σ (upd H l (.lst ys)) { s with heap := s.heap.update l (Obj.mapSeq f), toks := t' } := by
  have q := PySem.IsL.update e f
  rw [hf] at q
  refine I.write (x := l) (e := l) (by rw [hH]; exact trivial) (.inl rfl) (fun b' u hb hu => (Heap.get?_update_other s.heap (Obj.mapSeq f) (Ne.symm hb)).trans hu) ⟨_, q⟩ ?_
  exact ⟨hz, its', _, hv, q⟩
theorem Inv.lnew {its : List Value} {t' : Nat} (I : Inv X pins σ H s) (hv : Vals ys its) (hz : ys.length ≤ sizeLine) :
    Inv X pins σ (upd H s.heap.objs.size (.lst ys)) { s with heap := s.heap.push { cls := .type "list", data := .seq its.toArray }, toks := t' } :=
  I.laid (fun _ _ q => Heap.get?_push_of_some _ q) (Nat.le_refl _) ⟨hz, its, 0, hv, Heap.get?_push_size _ rfl⟩
theorem Inv.fresh (I : Inv X pins σ H s) : H s.heap.objs.size = none := I.hok.fresh (Nat.le_refl _)
theorem Inv.lstM (I : Inv X pins σ H s) (hH : H l = some (.lst xs)) : xs.length ≤ sizeLine ∧ ∃ (its : List Value) (n : Nat), Vals xs its ∧ xs.length = its.length ∧ s.heap.get? l = some { cls := .type "list", data := .seq its.toArray n } := by
  obtain ⟨z, its, n, r, e⟩ := I.hok l _ hH
  exact ⟨z, its, n, r, r.length, e⟩

theorem notLongL {n : Nat} (h : n ≤ sizeLine) : Builtin.List.listTooLong n = false := by
  unfold Builtin.List.listTooLong
  exact decide_eq_false (by omega)
end

section
variable {X : Cx}

/-! ### methods -/
def rAppend : V → List V → Hp → VK → Prop := fun x vs H Q => ∃ l xs y, x = .ref l ∧ vs = [y] ∧ H l = some (.lst xs) ∧ xs.length < sizeLine ∧ Q .non (upd H l (.lst (xs ++ [y])))
theorem mt_append : MtM X "list.append" rAppend := by
  intro pins s σ H x vs v us Q I rx rv h
  obtain ⟨l, xs, y, rfl, rfl, hH, hz, q⟩ := h
  cases rx
  obtain ⟨u, rfl, ru⟩ := rv.one
  obtain ⟨z, its, n, r, hl, e⟩ := I.lstM hH
  refine call_meets F.slot_list_append ⟨_, e, rfl⟩ F.entry_list_append (F.args_list_append_2 _ _) (PySem.list_append l its.toArray n u (by rw [List.size_toArray]; omega)) ⟨e, ?_⟩
  refine ⟨.non, _, I.lset (its' := its ++ [u]) hH e (by simp) (r.append (.cons ru .nil)) ?_, rfl, q⟩
  rw [List.length_append, List.length_singleton]
  omega

def rExtend : V → List V → Hp → VK → Prop := fun x vs H Q => ∃ l b xs zs, x = .ref l ∧ vs = [.ref b] ∧ H l = some (.lst xs) ∧ H b = some (.lst zs) ∧ xs.length + zs.length ≤ sizeLine ∧ Q .non (upd H l (.lst (xs ++ zs)))
theorem mt_extend : MtM X "list.extend" rExtend := by
  intro pins s σ H x vs v us Q I rx rv h
  obtain ⟨l, b, xs, zs, rfl, rfl, hH, hB, hz, q⟩ := h
  cases rx
  obtain ⟨u, rfl, ru⟩ := rv.one
  cases ru
  obtain ⟨z, its, n, r, hl, e⟩ := I.lstM hH
  obtain ⟨z2, its2, n2, r2, hl2, e2⟩ := I.lstM hB
  have hsz : its.toArray.size + its2.toArray.size ≤ sizeLine := by rw [List.size_toArray, List.size_toArray]; omega
  have hlong : ¬ (!its.toArray.isEmpty && Builtin.List.listTooLong (its.toArray.size + its2.toArray.size)) = true := by
    rw [notLongL hsz, Bool.and_false]
    exact Bool.false_ne_true
  refine call_meets F.slot_list_extend ⟨_, e, rfl⟩ F.entry_list_extend (F.args_list_extend_2 _ _)
    (AutoSeq1.list_extend_list_list_0 l its.toArray n b its2.toArray n2 hlong (by rw [List.size_toArray]; omega) (by omega)) ⟨e, e2, ?_⟩
  refine ⟨.non, _, I.lset (its' := its ++ its2) hH e (by simp) (r.append r2) ?_, rfl, q⟩
  rw [List.length_append]
  omega

def rPopAt : V → List V → Hp → VK → Prop := fun x vs H Q => ∃ l xs i k y, x = .ref l ∧ vs = [.int i] ∧ H l = some (.lst xs) ∧ -(2 ^ 63) ≤ i ∧ i < 2 ^ 63 ∧ seqIndex? i xs.length = some k ∧ xs[k]? = some y ∧ Q y (upd H l (.lst (xs.eraseIdx k)))
/-! ### list + list, list += list, list * int -/
def rCat : R2 := fun x y H Q => ∃ l b xs zs, x = .ref l ∧ y = .ref b ∧ H l = some (.lst xs) ∧ H b = some (.lst zs) ∧ xs.length + zs.length ≤ sizeLine ∧ ∀ p, H p = none → Q (.ref p) (upd H p (.lst (xs ++ zs)))
/-- a list times an int (a negative one is nothing) -/
def rRep : R2 := fun x y H Q => ∃ l k xs, x = .ref l ∧ y = .int k ∧ H l = some (.lst xs) ∧ -(2 ^ 63) ≤ k ∧ k < 2 ^ 63 ∧ xs.length * k.toNat ≤ sizeLine ∧
  ∀ p, H p = none → Q (.ref p) (upd H p (.lst (List.replicate k.toNat xs).flatten))
theorem len_rep {α : Type} (xs : List α) (k : Nat) : (List.replicate k xs).flatten.length = k * xs.length := by
  induction k with
  | zero => simp
  | succ k ih => rw [List.replicate_succ, List.flatten_cons, List.length_append, ih, Nat.succ_mul, Nat.add_comm]
theorem op_rep : OpR X (binaryOp .Mult) rRep := by
  intro pins s σ H x y v u Q I rx ry h
  obtain ⟨l, k, xs, rfl, rfl, hH, h1, h2, hz, q⟩ := h
  cases rx
  obtain ⟨t, rfl⟩ := ry
  obtain ⟨z, its, n, r, hl, e⟩ := I.lstM hH
  have hlen : its.toArray.size * k.toNat ≤ sizeLine := by rw [List.size_toArray, ← hl]; exact hz
  have hcap : ¬ its.toArray.size * k.toNat > (2 ^ 63 - 1) / 8 := by
    have : (sizeLine : Nat) ≤ (2 ^ 63 - 1) / 8 := by decide
    omega
  have hfit : ¬ (!Builtin.List.listFitsIndex k) = true := by
    rw [fitsIndex_both h1 h2]
    exact Bool.false_ne_true
  have hlong : ¬ Builtin.List.listTooLong (its.toArray.size * k.toNat) = true := by
    rw [notLongL hlen]
    exact Bool.false_ne_true
  have hnew : List.foldl (fun x1 x2 => x1 ++ x2) #[] (List.replicate (if its.toArray.isEmpty = true then 0 else k.toNat) its.toArray) = (List.replicate k.toNat its).flatten.toArray := by
    have f0 : ∀ m : Nat, List.foldl (fun x1 x2 => x1 ++ x2) #[] (List.replicate m its.toArray) = (List.replicate m its).flatten.toArray := fun m => by
      have := foldl_rep its m []
      rw [List.nil_append] at this
      exact this
    rw [f0]
    cases its with
    | nil => simp
    | cons a r' => rw [if_neg (by simp)]
  refine wpAny_binaryOp_repeat_ref (T := "list") (U := "int") (by decide) ⟨_, e, rfl⟩ (fun s' => typeIs_int s' k t) noFill_list_mul F.fills_int_mul F.slot_int_rmul repeat_list F.slot_int_index.lookup
    (call_meets F.slot_int_rmul (typeIs_int s k t) F.entry_int_rmul (F.args_int_rmul_2 _ _) (int___rmul___int_list k t l its.toArray n)
      ⟨e, rfl, ⟨_, e, rfl⟩, call_meets F.slot_list_mul ⟨_, e, rfl⟩ F.entry_list_mul (F.args_list_mul_2 _ _) (AutoListH.list___mul___list_int_3 l its.toArray n k t hfit hcap hlong) ⟨e, ?_⟩⟩)
  rw [hnew]
  exact ⟨.ref _, _, I.lnew (t' := s.toks) (r.rep k.toNat) (by rw [len_rep, Nat.mul_comm]; exact hz), rfl, q _ I.fresh⟩

/-! ### del xs[i] -/
end

/-! ### xs[a:b] = ys -/
section
variable {prog : Program} {w : World} {A : Around} {E : Value → Shared → Prop} {s : Shared}
set_option maxRecDepth 100000 in
end

section
variable {X : Cx}
end
end L2

namespace L2
open PySem PySem.Spec PyProof.Rows

theorem Vals.ints : ∀ {ns : List Int} {us : List Value}, Vals (ns.map V.int) us → IntsAre us ns
  | [], us, h => by
    rw [List.map_nil] at h
    cases h
    exact IntsAre.nil
  | n :: ns, us, h => by
    rw [List.map_cons] at h
    cases h with
    | cons r t =>
      obtain ⟨k, rfl⟩ := r
      exact IntsAre.cons n k (Vals.ints t)
theorem Vals.strs : ∀ {xs : List Str} {us : List Value}, Vals (xs.map V.str) us → StrsAre us xs
  | [], us, h => by
    rw [List.map_nil] at h
    cases h
    exact StrsAre.nil
  | x :: xs, us, h => by
    rw [List.map_cons] at h
    cases h with
    | cons r t =>
      obtain ⟨k, rfl⟩ := r
      exact StrsAre.cons x k (Vals.strs t)
/-! ### the library's walks over a list of ints, kept objects alone -/
section
variable {prog : Program} {w : World} {A : Around} {E : Value → Shared → Prop} {s : Shared} {l : Addr} {its : List Value} {ns : List Int} {Q : Value → Shared → Prop}
end

/-! ### the calls, by values (CallR of 03t; MtR of 06l) -/
section
variable {X : Cx}
/-! sorted, sort (fewer than 64 items: the library's own bound) -/
end

/-! ### list.index, flat items -/
section
variable {X : Cx}
def rIndex (K : PySem.W.Frag) : V → List V → Hp → VK → Prop := fun x xs H Q => ∃ (a : Addr) (ys : List V) (y : V) (j : Nat) (z : V), x = V.ref a ∧ xs = [y] ∧ SqL K H a ys ∧ flatV y = true ∧ ys.all flatV = true ∧ ys[j]? = some z ∧ eqV z y = true ∧
  (∀ (m : Nat) (z' : V), m < j → ys[m]? = some z' → eqV z' y = false) ∧ Q (.int (j : Nat)) H
theorem flat_at {ys : List V} (f : ys.all flatV = true) {j : Nat} {z : V} (h : ys[j]? = some z) : flatV z = true := List.all_eq_true.mp f z (List.mem_of_getElem? h)
theorem mt_index : MtR X "list.index" (rIndex X.K) := by
  intro pins s σ H x xs v us Q I rx rxs h
  obtain ⟨a, ys, y, j, z, rfl, rfl, hs, fy, fys, hz, hzj, hno, q⟩ := h
  cases rx
  cases rxs with
  | cons ry rt =>
    rename_i uy ut
    cases rt
    obtain ⟨its, rv, ⟨⟨cls, dd, data, sl⟩, n, ho, hc, hdn, hd⟩, hlen⟩ := I.list hs
    simp only at hc hd
    subst hc hd
    obtain ⟨u, hu, ru⟩ := rv.get hz
    obtain ⟨hjl, hje⟩ := List.getElem?_eq_some_iff.mp hu
    have hvl := rv.length
    have hj : j < its.toArray.size := by simpa using hjl
    have hsl := sizeLine_eq
    refine call_meets PySem.F.slot_list_index ⟨_, ho, rfl⟩ PySem.F.entry_list_index (PySem.F.args_list_index_2 _ _)
      (SeqAt.list_indexAt a its.toArray n dd sl uy (eqU y) j hj (by omega) ?_ ?_) ⟨ho, fun u' hu' => mem_eqAt ry fy rv fys u' (by simpa using hu'), ?_⟩
    · have e1 : its.toArray[j] = u := by simpa using hje
      rw [e1, eqU_of ru (flat_at fys hz)]
      exact hzj
    · intro m hm hmj
      have hml : m < its.length := by simpa using hm
      have hmy : m < ys.length := by omega
      have hy' : ys[m]? = some ys[m] := List.getElem?_eq_getElem hmy
      obtain ⟨u2, hu2, ru2⟩ := rv.get hy'
      obtain ⟨_, hme⟩ := List.getElem?_eq_some_iff.mp hu2
      have e1 : its.toArray[m] = u2 := by simpa using hme
      rw [e1, eqU_of ru2 (flat_at fys hy')]
      exact hno m _ hmj hy'
    · exact ⟨.int (j : Nat), H, I.tok _, ⟨_, rfl⟩, q⟩
end

/-! ### type(x) of an own instance; is, is not of a module's class -/
section
variable {X : Cx}
end

/-! ### any(xs), all(xs) of a list of bools -/
section
variable {X : Cx}
end

/-! ### == and != of data at any depth: none, bools, ints, texts, lists, tuples -/
mutual
inductive Dp (K : PySem.W.Frag) (H : Hp) : V → PyData → Prop
  | non : Dp K H .non .none
  | bl (b : Bool) : Dp K H (.bl b) (.bool b)
  | int (i : Int) : Dp K H (.int i) (.int i)
  | str (x : Str) : Dp K H (.str x) (.str x)
  | lst {a : Addr} {xs : List V} {ds : List PyData} : SqL K H a xs → DpAll K H xs ds → Dp K H (.ref a) (.list ds)
  | tup {a : Addr} {xs : List V} {ds : List PyData} : SqT K H a xs → DpAll K H xs ds → Dp K H (.ref a) (.tuple ds)
inductive DpAll (K : PySem.W.Frag) (H : Hp) : List V → List PyData → Prop
  | nil : DpAll K H [] []
  | cons {v : V} {vs : List V} {d : PyData} {ds : List PyData} : Dp K H v d → DpAll K H vs ds → DpAll K H (v :: vs) (d :: ds)
end
section
variable {X : Cx} {pins : List (Addr × Obj)} {σ : St} {H : Hp} {s : Shared}
mutual
theorem Dp.reads (I : Inv X pins σ H s) : ∀ (d : PyData) (v : V) (u : Value), Dp X.K H v d → RelV v u → ∃ as, Reads s.heap u d as
  | .none, _, _, h, r => by
    cases h
    cases r
    exact ⟨_, Reads.none⟩
  | .bool b, _, _, h, r => by
    cases h
    cases r
    exact ⟨_, Reads.bool b⟩
  | .int i, _, _, h, r => by
    cases h
    obtain ⟨t, rfl⟩ := r
    exact ⟨_, Reads.int i t⟩
  | .str x, _, _, h, r => by
    cases h
    obtain ⟨t, rfl⟩ := r
    exact ⟨_, Reads.str x t⟩
  | .list ds, _, _, h, r => by
    cases h with
    | lst hs ha =>
      cases r
      obtain ⟨its, rv, ⟨o, n, ho, hc, _, hd⟩, _⟩ := I.list hs
      obtain ⟨as, hr⟩ := Dp.readsAll I ds _ its ha rv
      exact ⟨_, Reads.list ho hc hd hr⟩
  | .tuple ds, _, _, h, r => by
    cases h with
    | tup hs ha =>
      cases r
      obtain ⟨its, rv, ⟨o, ho, hc, n, hd⟩, _⟩ := I.tuple hs
      obtain ⟨as, hr⟩ := Dp.readsAll I ds _ its ha rv
      exact ⟨_, Reads.tuple ho hc hd hr⟩
  | .dict _, _, _, h, _ => by cases h
theorem Dp.readsAll (I : Inv X pins σ H s) : ∀ (ds : List PyData) (vs : List V) (us : List Value), DpAll X.K H vs ds → Vals vs us → ∃ as, ReadsAll s.heap us ds as
  | [], _, _, h, r => by
    cases h
    cases r
    exact ⟨_, ReadsAll.nil⟩
  | d :: ds, _, _, h, r => by
    cases h with
    | cons h1 h2 =>
      cases r with
      | cons r1 r2 =>
        obtain ⟨as, q1⟩ := Dp.reads I d _ _ h1 r1
        obtain ⟨bs, q2⟩ := Dp.readsAll I ds _ _ h2 r2
        exact ⟨_, ReadsAll.cons q1 q2⟩
end
end
section
variable {X : Cx}
def rEqD (K : PySem.W.Frag) : R2 := fun x y H Q => ∃ d e, Dp K H x d ∧ Dp K H y e ∧ SeqAt.shaped d = true ∧ SeqAt.shaped e = true ∧ Q (.bl (PyData.eqv d e)) H
def rNeD (K : PySem.W.Frag) : R2 := fun x y H Q => ∃ d e, Dp K H x d ∧ Dp K H y e ∧ SeqAt.shaped d = true ∧ SeqAt.shaped e = true ∧ Q (.bl (!PyData.eqv d e)) H
theorem op_eqD (hu : X.A.units + 64 < cLine) : OpR X (compareOp .Eq) (rEqD X.K) := by
  intro pins s σ H x y v u Q I rx ry h
  obtain ⟨d, e, hd, he, sd, se, q⟩ := h
  obtain ⟨as, r1⟩ := Dp.reads I d x v hd rx
  obtain ⟨bs, r2⟩ := Dp.reads I e y u he ry
  exact SeqAt.compareEq_shaped r1 r2 sd se hu ⟨.bl _, H, I, rfl, q⟩
theorem op_neD (hu : X.A.units + 64 < cLine) : OpR X (compareOp .NotEq) (rNeD X.K) := by
  intro pins s σ H x y v u Q I rx ry h
  obtain ⟨d, e, hd, he, sd, se, q⟩ := h
  obtain ⟨as, r1⟩ := Dp.reads I d x v hd rx
  obtain ⟨bs, r2⟩ := Dp.reads I e y u he ry
  exact SeqAt.compareNe_shaped r1 r2 sd se hu ⟨.bl _, H, I, rfl, q⟩
end
end L2

namespace L2
open PySem PySem.Spec PyProof.Rows
abbrev CellAt (h : Heap) (c : Addr) (v : Option Value) : Prop := h.IsCell c v
def relS (scope sc : Scope) : Scope :=
  { scope with names := scope.names.map fun (n, k) => if (k == .free && sc.kind == .function && sc.names.lookup n == some .cell) then (n, .cell) else (n, k) }

def cloFrom (cells : List (Str × Addr)) : List (Str × NameKind) → List (Str × Addr) → List (Str × Addr)
  | [], acc => acc
  | (n, k) :: r, acc => if k == .free then cloFrom cells r ((n, (cells.lookup n).getD 0) :: acc) else cloFrom cells r acc

theorem closure_loop (env : Env) (f : Str × NameKind → List (Str × Addr) → Sem (ForInStep (List (Str × Addr))))
    (hf : ∀ n k c, f (n, k) c = if k == .free then (do let a ← cellOf env n; pure (.yield ((n, a) :: c))) else pure (.yield c)) :
    ∀ (names : List (Str × NameKind)) (acc : List (Str × Addr)), (∀ y ∈ names, y.2 = .free → ∃ c, env.cells.lookup y.1 = some c) → forIn names acc f = pure (cloFrom env.cells names acc)
  | [], acc, _ => by rw [List.forIn_nil]; rfl
  | (n, k) :: r, acc, h => by
    rw [List.forIn_cons, hf]
    have ih := fun acc => closure_loop env f hf r acc fun y hy => h y (List.mem_cons_of_mem _ hy)
    unfold cloFrom
    by_cases hk : (k == NameKind.free) = true
    · rw [if_pos hk, if_pos hk]
      obtain ⟨c, hc⟩ := h (n, k) List.mem_cons_self (by simpa using hk)
      have e : cellOf env n = pure c := by unfold cellOf; rw [hc]
      rw [e]
      have e2 : (env.cells.lookup n).getD 0 = c := by rw [hc]; rfl
      rw [e2]
      exact ih _
    · rw [if_neg hk, if_neg hk]
      exact ih _
theorem closure_ok {scope : Scope} {env : Env} (h : ∀ y ∈ scope.names, y.2 = .free → ∃ c, env.cells.lookup y.1 = some c) : closureFor scope env = pure (cloFrom env.cells scope.names []) := by
  simp only [closureFor]
  rw [closure_loop env _ (fun n k c => rfl) scope.names [] h]
  rfl

theorem mem_lookup {α : Type} : ∀ {l : List (Str × α)} {n : Str} {c : α}, (n, c) ∈ l → ∃ c', l.lookup n = some c'
  | (k, v) :: r, n, c, h => by
    rw [List.lookup_cons]
    cases hb : n == k with
    | true => exact ⟨_, rfl⟩
    | false =>
      rcases List.mem_cons.mp h with e | h
      · cases e; simp at hb
      · exact mem_lookup h

theorem cloFrom_mem {cells : List (Str × Addr)} : ∀ {names : List (Str × NameKind)} {acc : List (Str × Addr)} {n : Str} {c : Addr}, (n, c) ∈ cloFrom cells names acc → (n, c) ∈ acc ∨ ((n, .free) ∈ names ∧ c = (cells.lookup n).getD 0)
  | [], _, _, _, h => .inl h
  | (m, k) :: r, acc, n, c, h => by
    unfold cloFrom at h
    split at h
    · rename_i hk
      have hk : k = .free := by simpa using hk
      rcases cloFrom_mem h with h | ⟨h1, h2⟩
      · rcases List.mem_cons.mp h with e | h
        · cases e; exact .inr ⟨hk ▸ List.mem_cons_self, rfl⟩
        · exact .inl h
      · exact .inr ⟨List.mem_cons_of_mem _ h1, h2⟩
    · rcases cloFrom_mem h with h | ⟨h1, h2⟩
      · exact .inl h
      · exact .inr ⟨List.mem_cons_of_mem _ h1, h2⟩
theorem cloFrom_acc {cells : List (Str × Addr)} : ∀ {names : List (Str × NameKind)} {acc : List (Str × Addr)} {p : Str × Addr}, p ∈ acc → p ∈ cloFrom cells names acc
  | [], _, _, h => h
  | (m, k) :: r, acc, p, h => by
    unfold cloFrom
    split
    · exact cloFrom_acc (List.mem_cons_of_mem _ h)
    · exact cloFrom_acc h
theorem cloFrom_has {cells : List (Str × Addr)} : ∀ {names : List (Str × NameKind)} {acc : List (Str × Addr)} {n : Str}, (n, .free) ∈ names → (n, (cells.lookup n).getD 0) ∈ cloFrom cells names acc
  | (m, k) :: r, acc, n, h => by
    unfold cloFrom
    rcases List.mem_cons.mp h with e | h
    · cases e
      exact cloFrom_acc List.mem_cons_self
    · split
      · exact cloFrom_has h
      · exact cloFrom_has h

theorem cells_mem : ∀ {names : List (Str × NameKind)} {h : Heap} {acc : List (Str × Addr)} {x : Str} {c : Addr}, (x, c) ∈ cellsFrom h.objs.size names acc →
    (x, c) ∈ acc ∨ ((x, .cell) ∈ names ∧ h.objs.size ≤ c ∧ CellAt (pushCells h names) c none)
  | [], _, _, _, _, h => .inl h
  | (n, k) :: r, h, acc, x, c, hm => by
    unfold cellsFrom at hm
    unfold pushCells
    split at hm
    · rename_i hk
      rw [if_pos hk]
      have hk : k = .cell := by simpa using hk
      rw [← Heap.size_push h { cls := .type "cell", data := .cell none }] at hm
      rcases cells_mem hm with hm | ⟨h1, h2, h3⟩
      · rcases List.mem_cons.mp hm with e | hm
        · cases e
          exact .inr ⟨hk ▸ List.mem_cons_self, Nat.le_refl _, _, pushCells_keeps r _ _ _ (Heap.get?_push_size _ rfl), rfl⟩
        · exact .inl hm
      · rw [Heap.size_push] at h2
        exact .inr ⟨List.mem_cons_of_mem _ h1, Nat.le_of_succ_le h2, h3⟩
    · rename_i hk
      rw [if_neg hk]
      rcases cells_mem hm with hm | ⟨h1, h2, h3⟩
      · exact .inl hm
      · exact .inr ⟨List.mem_cons_of_mem _ h1, h2, h3⟩
theorem cells_acc : ∀ {names : List (Str × NameKind)} {n : Nat} {acc : List (Str × Addr)} {p : Str × Addr}, p ∈ acc → p ∈ cellsFrom n names acc
  | [], _, _, _, h => h
  | (m, k) :: r, n, acc, p, h => by
    unfold cellsFrom
    split
    · exact cells_acc (List.mem_cons_of_mem _ h)
    · exact cells_acc h
theorem cells_has : ∀ {names : List (Str × NameKind)} {n : Nat} {acc : List (Str × Addr)} {x : Str}, (x, .cell) ∈ names → ∃ c, (x, c) ∈ cellsFrom n names acc
  | (m, k) :: r, n, acc, x, h => by
    unfold cellsFrom
    rcases List.mem_cons.mp h with e | h
    · cases e
      exact ⟨n, cells_acc List.mem_cons_self⟩
    · split
      · exact cells_has h
      · exact cells_has h
theorem cells_inj : ∀ {names : List (Str × NameKind)} {h : Heap} {acc : List (Str × Addr)} {x y : Str} {c : Addr}, (∀ p ∈ acc, p.2 < h.objs.size) → (∀ x y c, (x, c) ∈ acc → (y, c) ∈ acc → x = y) →
    (x, c) ∈ cellsFrom h.objs.size names acc → (y, c) ∈ cellsFrom h.objs.size names acc → x = y
  | [], _, _, _, _, _, _, hi, h1, h2 => hi _ _ _ h1 h2
  | (n, k) :: r, h, acc, x, y, c, hl, hi, h1, h2 => by
    unfold cellsFrom at h1 h2
    split at h1
    · rename_i hk
      rw [if_pos hk] at h2
      rw [← Heap.size_push h { cls := .type "cell", data := .cell none }] at h1 h2
      refine cells_inj (h := h.push _) (fun p hp => ?_) (fun x y c a b => ?_) h1 h2
      · rw [Heap.size_push]
        rcases List.mem_cons.mp hp with rfl | hp
        · exact Nat.lt_succ_self _
        · exact Nat.lt_succ_of_lt (hl p hp)
      · rcases List.mem_cons.mp a with e | a <;> rcases List.mem_cons.mp b with e' | b
        · cases e; cases e'; rfl
        · cases e; exact absurd (hl _ b) (Nat.lt_irrefl _)
        · cases e'; exact absurd (hl _ a) (Nat.lt_irrefl _)
        · exact hi _ _ _ a b
    · rename_i hk
      rw [if_neg hk] at h2
      exact cells_inj hl hi h1 h2

theorem newEnv_comp {M : Model} {A : Around} {E : Value → Shared → Prop} {s : Shared} {scope : Scope} {globals : Addr} {closure : List (Str × Addr)} {qual : Str} {func : Option Addr} {code : Value} {around : Env} {builtins : Addr} {Q : Env → Shared → Prop}
    (h : Q (newEnv scope s.heap.objs.size globals (cellsFrom (s.heap.objs.size + 1) scope.names closure) qual func code (some around) builtins)
      { s with heap := pushCells (s.heap.push { cls := .type "dict", data := .dict #[] }) scope.names }) :
    wpAny M A (newFunctionEnv scope globals closure [] qual func code (some around) builtins) Q E s := by
  simp only [newFunctionEnv, Option.isSome_some, if_true]
  refine wpAny_bind (wpAny_alloc ?_)
  refine wpAny_bind (wpAny_layCells _ (fun n k c => rfl) scope.names closure _ _ ?_)
  rw [show ({ s with heap := s.heap.push { cls := .type "dict", data := .dict #[] } } : Shared).heap.objs.size = s.heap.objs.size + 1 from Heap.size_push ..]
  rw [List.forIn_nil]
  exact wpAny_bind (wpAny_pure (wpAny_pure h))

/-- every name of the written scope, in the scope that runs -/
theorem lookup_relS {sc : Scope} : ∀ {names : List (Str × NameKind)} {x : Str} {k : NameKind},
    (names.map fun (n, k) => if (k == NameKind.free && sc.kind == .function && sc.names.lookup n == some .cell) then (n, NameKind.cell) else (n, k)).lookup x = some k →
    ∃ k', names.lookup x = some k' ∧ (k = k' ∨ (k' = .free ∧ k = .cell))
  | [], _, _, h => by simp at h
  | (n, k₀) :: r, x, k, h => by
    have ih := @lookup_relS sc r x k
    have h' : List.lookup x ((if (k₀ == NameKind.free && sc.kind == .function && sc.names.lookup n == some .cell) = true then (n, NameKind.cell) else (n, k₀)) :: (r.map _)) = some k := h
    cases hx : x == n with
    | true =>
      simp only [List.lookup_cons, hx]
      by_cases hc : (k₀ == NameKind.free && sc.kind == .function && sc.names.lookup n == some .cell) = true
      · rw [if_pos hc] at h'
        simp only [List.lookup_cons, hx] at h'
        cases h'
        simp only [Bool.and_eq_true, beq_iff_eq] at hc
        exact ⟨k₀, rfl, .inr ⟨hc.1.1, rfl⟩⟩
      · rw [if_neg hc] at h'
        simp only [List.lookup_cons, hx] at h'
        cases h'
        exact ⟨_, rfl, .inl rfl⟩
    | false =>
      simp only [List.lookup_cons, hx]
      by_cases hc : (k₀ == NameKind.free && sc.kind == .function && sc.names.lookup n == some .cell) = true
      · rw [if_pos hc] at h'
        simp only [List.lookup_cons, hx] at h'
        exact ih h'
      · rw [if_neg hc] at h'
        simp only [List.lookup_cons, hx] at h'
        exact ih h'
/-- the names of a comprehension's block: its own (with their places in N), or captured -/
structure BlkOk (N : List Str) (sc scope : Scope) (own : List (Str × Nat)) : Prop where
  kind : scope.kind = .function
  uniq : ∀ y ∈ scope.names, scope.names.lookup y.1 = some y.2
  ix : ∀ p ∈ own, N[p.2]? = some p.1
  free : ∀ y ∈ scope.names, y.2 = .free → sc.names.lookup y.1 = some .cell ∨ sc.names.lookup y.1 = some .free
  own : ∀ y ∈ scope.names, y.2 = .local ∨ y.2 = .cell → y.1 ∈ own.map (·.1) ∨ y.1 ∉ N
/-- the slots of the block's own names forgotten -/
def wipe (σ : St) : List Nat → St
  | [] => σ
  | v :: vs => (wipe σ vs).set v none
theorem wipe_length (σ : St) : ∀ vs : List Nat, (wipe σ vs).length = σ.length
  | [] => rfl
  | v :: vs => by unfold wipe; rw [List.length_set, wipe_length σ vs]
theorem wipe_some {σ : St} {i : Nat} {x : V} : ∀ {vs : List Nat}, (wipe σ vs)[i]? = some (some x) → σ[i]? = some (some x) ∧ i ∉ vs
  | [], h => ⟨h, by simp⟩
  | v :: vs, h => by
    unfold wipe at h
    by_cases hi : v = i
    · subst hi
      by_cases hv : v < (wipe σ vs).length
      · rw [List.getElem?_set_self hv] at h; cases h
      · rw [List.getElem?_eq_none (by simpa using hv)] at h; cases h
    · rw [List.getElem?_set_ne hi] at h
      obtain ⟨h1, h2⟩ := wipe_some h
      exact ⟨h1, by simp only [List.mem_cons, not_or]; exact ⟨fun e => hi e.symm, h2⟩⟩

/-- the context of a block that starts at s, its iterator's objects at fp -/
abbrev Cx.blk (X : Cx) (s : Shared) (H : Hp) (scope : Scope) (cenv : Env) (fp : List Addr) : Cx := { X with s_0 := s, H_0 := H, env := cenv, outer := X.stack, ex := fp, fn := fun x => scope.names.lookup x == some .cell, pn := [], xe := fun _ _ => False }
section
variable {X : Cx} {pins : List (Addr × Obj)} {σ : St} {H : Hp} {s : Shared}
theorem block_start {scope : Scope} {own : List (Str × Nat)} {fp : List Addr} (I : Inv X pins σ H s) (ok : BlkOk X.N X.env.scope scope own) (hN : X.N.Nodup) (hfp : ∀ b ∈ fp, FpOk X pins H b ∧ b < s.heap.objs.size) :
    Inv (X.blk s H scope (compEnvC scope (cellsFrom (s.heap.objs.size + 1) scope.names (cloFrom X.env.cells scope.names [])) s.heap.objs.size X.env) fp) [] (wipe σ (own.map (·.2))) H { s with heap := pushCells (s.heap.push { cls := .type "dict", data := .dict #[] }) scope.names } := by
  have hfree : ∀ y ∈ scope.names, y.2 = .free → ∃ c, X.env.cells.lookup y.1 = some c := fun y hy e => by
    rcases ok.free y hy e with k | k
    · exact I.ok.has _ (.inl k)
    · exact I.ok.has _ (.inr k)
  generalize hcenv : compEnvC scope (cellsFrom (s.heap.objs.size + 1) scope.names (cloFrom X.env.cells scope.names [])) s.heap.objs.size X.env = cenv
  have kp : ∀ b o, s.heap.get? b = some o → (pushCells (s.heap.push { cls := .type "dict", data := .dict #[] }) scope.names).get? b = some o := fun b o e => pushCells_keeps _ _ _ _ (Heap.get?_push_of_some _ e)
  have hL : cenv.locals = s.heap.objs.size := by rw [← hcenv]; rfl
  have hcl : cenv.cells = cellsFrom (s.heap.objs.size + 1) scope.names (cloFrom X.env.cells scope.names []) := by rw [← hcenv]; rfl
  have hsc : cenv.scope = relS scope X.env.scope := by rw [← hcenv]; rfl
  rw [← Heap.size_push s.heap { cls := .type "dict", data := .dict #[] }] at hcl
  have cm : ∀ {y c}, (y, c) ∈ cloFrom X.env.cells scope.names [] → X.env.cells.lookup y = some c ∧ c < s.heap.objs.size := fun {y c} hm => by
    rcases cloFrom_mem hm with hm | ⟨h1, rfl⟩
    · cases hm
    · obtain ⟨c, hc⟩ := hfree _ h1 rfl
      rw [hc]
      obtain ⟨w, z⟩ := I.cell _ _ hc
      exact ⟨rfl, z.lt⟩
  have mem : ∀ {y c}, cenv.cells.lookup y = some c → (X.env.cells.lookup y = some c ∧ c < s.heap.objs.size) ∨ (s.heap.objs.size + 1 ≤ c ∧ CellAt (pushCells (s.heap.push { cls := .type "dict", data := .dict #[] }) scope.names) c none) := fun {y c} e => by
    rw [hcl] at e
    rcases cells_mem (PySem.mem_of_lookup e) with hm | ⟨_, h2, h3⟩
    · exact .inl (cm hm)
    · rw [Heap.size_push] at h2; exact .inr ⟨h2, h3⟩
  have look : ∀ {y}, scope.names.lookup y = some .free → ∃ c, cenv.cells.lookup y = some c ∧ X.env.cells.lookup y = some c := fun {y} hl => by
    have hy : (y, NameKind.free) ∈ scope.names := PySem.mem_of_lookup hl
    obtain ⟨c', e'⟩ := mem_lookup (cells_acc (names := scope.names) (n := (s.heap.push { cls := .type "dict", data := .dict #[] }).objs.size) (cloFrom_has (cells := X.env.cells) (acc := []) hy))
    rw [← hcl] at e'
    refine ⟨c', e', ?_⟩
    rw [hcl] at e'
    rcases cells_mem (PySem.mem_of_lookup e') with hm | ⟨h1, _, _⟩
    · exact (cm hm).1
    · have := ok.uniq _ h1
      rw [hl] at this; cases this
  have okB : (X.blk s H scope cenv fp).Ok := by
    refine ⟨I.ok.mod, by show cenv.scope.kind = _; rw [hsc]; exact ok.kind, by show cenv.globals = _; rw [← hcenv]; exact I.ok.glob, by show cenv.builtins = _; rw [← hcenv]; exact I.ok.blt, by show s.heap.objs.size ≤ cenv.locals; rw [hL]; exact Nat.le_refl _,
      fun y z c e1 e2 => ?_, fun y hy => ?_, fun y c z e => ?_, I.ok.hd, I.ok.frames, .inl rfl, fun b hb => ⟨?_, fun y c e z => ?_⟩, I.bs, Nat.le_trans I.ok.bsz I.sz, fun b o e hb => ?_, fun b hb z => ?_, I.stack, I.stkFree⟩
    · have e1 : cenv.cells.lookup y = some c := e1
      have e2 : cenv.cells.lookup z = some c := e2
      rw [hcl] at e1 e2
      refine cells_inj (fun p hp => ?_) (fun y z c a b => I.ok.inj y z c (cm a).1 (cm b).1) (PySem.mem_of_lookup e1) (PySem.mem_of_lookup e2)
      rw [Heap.size_push]
      exact Nat.lt_succ_of_lt (cm (y := p.1) (c := p.2) hp).2
    · show ∃ c, cenv.cells.lookup y = some c
      have key : ∀ k, cenv.kindOf y = some k → (k = .cell ∨ k = .free) → ∃ c, cenv.cells.lookup y = some c := fun k hk hk' => by
        unfold Env.kindOf at hk
        rw [hsc] at hk
        obtain ⟨k', e, r⟩ := lookup_relS hk
        have : k' = .cell ∨ k' = .free := by
          rcases r with rfl | ⟨rfl, _⟩
          · exact hk'
          · exact .inr rfl
        rcases this with rfl | rfl
        · obtain ⟨c, hm⟩ := cells_has (n := (s.heap.push { cls := .type "dict", data := .dict #[] }).objs.size) (acc := cloFrom X.env.cells scope.names []) (PySem.mem_of_lookup e)
          obtain ⟨c', e'⟩ := mem_lookup hm
          exact ⟨c', by rw [hcl]; exact e'⟩
        · obtain ⟨c, h1, _⟩ := look e
          exact ⟨c, h1⟩
      rcases hy with hy | hy
      · exact key _ hy (.inl rfl)
      · exact key _ hy (.inr rfl)
    · have z : (scope.names.lookup y == some NameKind.cell) = true := z
      have z : scope.names.lookup y = some .cell := by simpa using z
      have e : cenv.cells.lookup y = some c := e
      rw [hcl] at e
      rcases cells_mem (PySem.mem_of_lookup e) with hm | ⟨_, h2, _⟩
      · rcases cloFrom_mem hm with hm | ⟨h1, _⟩
        · cases hm
        · have q := ok.uniq _ h1
          rw [z] at q; cases q
      · rw [Heap.size_push] at h2
        exact Nat.le_of_succ_le h2
    · show b ≠ cenv.locals
      rw [hL]; exact Nat.ne_of_lt (hfp b hb).2
    · have e : cenv.cells.lookup y = some c := e
      rcases mem e with ⟨h1, _⟩ | ⟨h1, _⟩
      · exact (hfp b hb).1.2.2.2.2.1 y c h1 z
      · have h2 : s.heap.objs.size + 1 ≤ b := by rw [← z]; exact h1
        exact absurd (Nat.lt_of_lt_of_le (hfp b hb).2 (Nat.le_of_succ_le h2)) (Nat.lt_irrefl _)
    · rcases (hfp b hb).1.2.2.2.1 with z | z
      · exact I.ok.noex b o e z
      · exact absurd (Nat.lt_of_lt_of_le (Heap.lt_size e) (Nat.le_trans I.ok.bsz z)) (Nat.lt_irrefl _)
    · rcases List.mem_cons.mp (I.stkSub b z) with z | z
      · exact (hfp b hb).1.2.1 z
      · exact (hfp b hb).1.2.2.1 z
  refine ⟨okB, rfl, I.bare, Un.kept kp, ⟨fun _ => none, ?_, fun i y av e1 e2 e3 => ?_⟩, fun y c e => ?_, ?_, fun y c e => ?_, fun p hp => ?_, I.hok.kept kp, by rw [wipe_length]; exact I.len⟩
  · show Heap.Ns _ cenv.locals _
    rw [hL]
    exact Heap.Ns.keeps (Heap.Ns.new ..) fun b o e => pushCells_keeps _ _ _ _ e
  · obtain ⟨e2, hne⟩ := wipe_some e2
    have hfr : scope.names.lookup y = some .free ∧ (cenv.kindOf y = some .cell ∨ cenv.kindOf y = some .free) := by
      have key : ∀ k, cenv.scope.names.lookup y = some k → k = .local ∨ k = .cell ∨ k = .free → scope.names.lookup y = some .free ∧ (cenv.kindOf y = some .cell ∨ cenv.kindOf y = some .free) := fun k hk hk' => by
        have hk0 := hk
        rw [hsc] at hk
        obtain ⟨k', e, r⟩ := lookup_relS hk
        have no : ¬ (k' = .local ∨ k' = .cell) := fun hh => by
          rcases ok.own _ (PySem.mem_of_lookup e) hh with e' | e'
          · obtain ⟨p, hp, hpy⟩ := List.mem_map.mp e'
            have e3 := ok.ix p hp
            have : p.1 = y := hpy
            rw [this] at e3
            exact hne (List.mem_map.mpr ⟨p, hp, nodup_ix hN e3 e1⟩)
          · exact e' (List.mem_of_getElem? e1)
        rcases r with rfl | ⟨rfl, rfl⟩
        · rcases hk' with rfl | rfl | rfl
          · exact absurd (.inl rfl) no
          · exact absurd (.inr rfl) no
          · exact ⟨e, .inr hk0⟩
        · exact ⟨e, .inl hk0⟩
      have e3 : Vis cenv.scope y := e3
      rcases e3 with e3 | e3 | e3
      · exact key _ e3 (.inl rfl)
      · exact key _ e3 (.inr (.inl rfl))
      · exact key _ e3 (.inr (.inr rfl))
    obtain ⟨m, hn, hl⟩ := I.loc
    have hvis : Vis X.env.scope y := (ok.free _ (PySem.mem_of_lookup hfr.1) rfl).elim (fun k => .inr (.inl k)) (fun k => .inr (.inr k))
    obtain ⟨w, r, q⟩ := hl i y av e1 e2 hvis
    refine ⟨w, r, .inr ⟨hfr.2, ?_⟩⟩
    obtain ⟨c, h1, h2⟩ := look hfr.1
    rcases q with ⟨k, _⟩ | ⟨_, c', e', z⟩
    · have k : X.env.scope.names.lookup y = some .local := k
      rcases ok.free _ (PySem.mem_of_lookup hfr.1) rfl with k' | k' <;> rw [show X.env.scope.names.lookup y = _ from k'] at k <;> cases k
    · rw [h2] at e'; cases e'
      exact ⟨c, h1, z.keeps kp⟩
  · have e : cenv.cells.lookup y = some c := e
    rcases mem e with ⟨h1, _⟩ | ⟨_, z⟩
    · obtain ⟨w, z⟩ := I.cell y c h1
      exact ⟨w, z.keeps kp⟩
    · exact ⟨_, z⟩
  · show H cenv.locals = none
    rw [hL]; exact I.hok.fresh (Nat.le_refl _)
  · have e : cenv.cells.lookup y = some c := e
    rcases mem e with ⟨h1, _⟩ | ⟨h1, _⟩
    · exact I.freeC y c h1
    · exact I.hok.fresh (Nat.le_of_succ_le h1)
  · exact absurd (show p ∈ ([] : List (Addr × Obj)) ++ [] from hp) (by simp)

/-- an item appended to a tracked list -/
theorem app_ok {E : Value → Shared → Prop} {D : Addr} {xs : List V} {y : V} {v : Value} {Q : Value → Shared → Prop} (I : Inv X pins σ H s) (hD : H D = some (.lst xs)) (hz : xs.length < sizeLine) (r : RelV y v)
    (h : ∀ s', Inv X pins σ (upd H D (.lst (xs ++ [y]))) s' → Q .none s') : wpAny (model X.prog X.w) X.A (call (.builtin "list.append") [.ref D, v]) Q E s := by
  obtain ⟨hz', its, n, ri, e⟩ := I.hok D _ hD
  have hl := ri.length
  refine append_at (hsz := by rw [List.size_toArray]; omega) e fun h' sb ho' => ?_
  refine h { s with heap := h' } (I.write (t' := s.toks) (by rw [hD]; trivial) (.inl rfl) (fun b u hb q => (sb.2 b hb).trans q) ⟨_, ho'⟩ ⟨by rw [List.length_append]; exact hz, its ++ [v], n + 1, ri.append (.cons r .nil), ?_⟩)
  rw [ho']
  simp

/-- a clause's tests -/
def PTs (X : Cx) (ifs : List Expr) (t : TT) : Prop :=
  ∀ (pins : List (Addr × Obj)) (s : Shared) (σ : St) (H : Hp) (Q : Bool → Hp → Prop), Inv X pins σ H s → t σ H Q →
    wpAny (model X.prog X.w) X.A (forIn ifs true fun c r => if r = true then do let ok ← isTrue c X.env (eval c X.env); pure (ForInStep.yield ok) else pure (ForInStep.yield r)) (TP X pins σ Q) X.xe s
def tYes : TT := fun _ H Q => Q true H
theorem pts_nil : PTs X [] tYes := fun _ _ _ H _ I h => wpAny_tests_nil ⟨H, I, h⟩
end

theorem thnF {α : Type} {t : Sem α} {Q Q' : α → Shared → Prop} {M : Model} {A : Around} {E : Value → Shared → Prop} {s : Shared} (h : wpAny M A t Q (fun _ _ => False) s) (hQ : ∀ a s, Q a s → Q' a s) : wpAny M A t Q' E s := wpAny_mono h hQ fun _ _ z => False.elim z

/-- the loop of a list comprehension's block, the target of any form (codeAny_compLoop_tests asks a target that no tuple goes to; statement and proof follow it, PyProof/CompMap.lean:41-61, with the step letOwnedTupleGo kept) -/
theorem compLoop_any {prog : Program} {w : World} {A : Around} {R : Result → Shared → Prop} {s : Shared} {elt target iter : Expr} {ifs : List Expr} {scope : Scope} {pos : Pos} {it acc : Value} {env : Env} (I : Nat → Shared → Prop)
    (turn : ∀ n s, I n s → wpAny (model prog w) A (pyNext it) (fun r s₁ => match r with
      | none => R (.ok .next) s₁
      | some v => wpAny (model prog w) A (letOwnedTupleGo target it v) (fun _ s₁' => wpAny (model prog w) A (assign target env v) (fun _ s₂ =>
          wpAny (model prog w) A (forIn ifs true fun c r => if r = true then do let ok ← isTrue c env (eval c env); pure (ForInStep.yield ok) else pure (ForInStep.yield r)) (fun ok s₃ =>
            if ok = true then wpAny (model prog w) A (eval elt env) (fun x s₄ =>
              wpAny (model prog w) A (call (.builtin "list.append") [acc, x]) (fun _ s₅ => ∃ m, m < n ∧ I m s₅) (notedBy (model prog w) A env fun e s' => R (.error e) s') s₄) (notedBy (model prog w) A env fun e s' => R (.error e) s') s₃
            else ∃ m, m < n ∧ I m s₃) (notedBy (model prog w) A env fun e s' => R (.error e) s') s₂) (notedBy (model prog w) A env fun e s' => R (.error e) s') s₁') (notedBy (model prog w) A env fun e s' => R (.error e) s') s₁) (notedBy (model prog w) A env fun e s' => R (.error e) s') s)
    (n : Nat) (h : I n s) :
    codeAny (model prog w) A (.compLoop (.ListComp elt [⟨target, iter, ifs, 0⟩] scope pos) 0 it acc env) R s := by
  refine codeAny_loop rfl I (fun n s hI => ?_) n h
  show wpAny _ A ((compTurn (.ListComp elt [⟨target, iter, ifs, 0⟩] scope pos) 0 it acc env).onRaise (fun x => do noteFrame x env; theTreesLotGoes x)) _ _ s
  refine wpAny_noted ?_
  rw [compTurn_list]
  refine wpAny_bind (wpAny_standAt (wpAny_bind (wpAny_mono (turn n s hI) (fun r s₁ h₁ => ?_) fun _ _ h' => h')))
  cases r with
  | none => exact wpAny_pure h₁
  | some v =>
    refine wpAny_bind (wpAny_mono h₁ (fun _ s₁' h₁' => ?_) fun _ _ h' => h')
    refine wpAny_bind (wpAny_mono h₁' (fun _ s₂ h₂ => wpAny_bind (wpAny_mono h₂ (fun ok s₃ h₃ => ?_) fun _ _ h' => h')) fun _ _ h' => h')
    cases ok with
    | false => exact wpAny_pure ⟨rfl, h₃⟩
    | true =>
      exact wpAny_bind (wpAny_bind (wpAny_mono h₃ (fun x s₄ h₄ => wpAny_bind (wpAny_mono h₄ (fun _ s₅ h₅ => wpAny_pure (wpAny_pure ⟨rfl, h₅⟩)) fun _ _ h' => h')) fun _ _ h' => h'))

section
variable {X : Cx}
/-- [elt for target in iter if ..]: D the new list; W by the turn and a measure, Nx what a turn is to reach -/
def tLc (wi : TI) (g : TG) (tt : TT) (te : TE) (vs : List Nat) : TE := fun σ H Q => wi σ H fun J H1 => ∀ D, H1 D = none → ∃ W : Nat → Nat → Hp → Prop, (∃ m, W 0 m (upd H1 D (.lst []))) ∧ ∀ i m H, W i m H →
  (J.stop i H ∧ Q (.ref D) H) ∨ (J.go i H ∧ ∃ Nx : Hp → Prop, (∀ H', Nx H' → ∃ m', m' < m ∧ W (i + 1) m' H') ∧ ∀ x H', J.yld i H x H' → g x (wipe σ vs) H' fun σ2 H2 => wipe σ2 vs = wipe σ vs ∧ tt σ2 H2 fun b H3 =>
    if b = true then te σ2 H3 fun y H4 => ∃ acc, H4 D = some (.lst acc) ∧ acc.length < sizeLine ∧ Nx (upd H4 D (.lst (acc ++ [y]))) else Nx H3)
theorem lc_core {pins : List (Addr × Obj)} {s : Shared} {σ : St} {H : Hp} {Q : VK} {elt tg iter : Expr} {ifs : List Expr} {scope : Scope} {own : List (Str × Nat)} {pos pos' : Pos} {wi : TI} {g : TG} {tt : TT} {te : TE} {use : Option (Value → Sem Unit)} {Qf : Value → Shared → Prop}
    (hc : X.calm = true) (hN : X.N.Nodup) (I : Inv X pins σ H s) (hi : PI X tg iter wi) (ok : BlkOk X.N X.env.scope scope own)
    (hg : ∀ (s : Shared) (H : Hp) (C : Addr) (cl : List (Str × Addr)) (fp : List Addr), PG (X.blk s H scope (compEnvC scope cl C X.env) fp) tg g) (ht : ∀ (s : Shared) (H : Hp) (C : Addr) (cl : List (Str × Addr)) (fp : List Addr), PTs (X.blk s H scope (compEnvC scope cl C X.env) fp) ifs tt)
    (he : ∀ (s : Shared) (H : Hp) (C : Addr) (cl : List (Str × Addr)) (fp : List Addr), PE (X.blk s H scope (compEnvC scope cl C X.env) fp) elt te) (hs : ∀ x, foldedSetIterable iter X.env x = pure x)
    (h : tLc wi g tt te (own.map (·.2)) σ H Q)
    (hRR : ∀ D C s' m H', Inv X pins σ H' s' → Q (.ref D) H' → s'.heap.Ns C m → FpOk X pins H' C → compPost (model X.prog X.w) X.A X.xe use Qf (.ref D) C (.ok .next) s') :
    wpAny (model X.prog X.w) X.A (comprehension (.ListComp elt [⟨tg, iter, ifs, 0⟩] scope pos) scope X.env pos' (newList []) false (eval iter X.env) use) Qf X.xe s := by
  have hfree : ∀ y ∈ scope.names, y.2 = .free → ∃ c, X.env.cells.lookup y.1 = some c := fun y hy e => by
    rcases ok.free y hy e with k | k
    · exact I.ok.has _ (.inl k)
    · exact I.ok.has _ (.inr k)
  refine wpAny_comprehension_free (use := use) rfl hs (closure_ok hfree) ok.kind (fun y hy e => by rw [ok.uniq y hy, e])
    (thn (hi pins s σ H _ I h) fun xv s1 hx => thn hx fun itv s2 h2 => ?_)
  obtain ⟨it, fp, tn, J, H2, e, I2, T, st2, f2, q⟩ := h2
  subst e
  refine wpAny_newObj_type (newEnv_comp ?_) (by show 0 ≤ sizeLine; decide)
  generalize hD : s2.heap.objs.size = D
  have hDn : H2 D = none := I2.hok.fresh (Nat.le_of_eq hD)
  obtain ⟨W, ⟨m0, w0⟩, turn⟩ := q D hDn
  -- the new list
  generalize hs3 : ({ s2 with heap := s2.heap.push { cls := .type "list", data := .seq ([] : List Value).toArray } } : Shared) = s3
  have I3 : Inv X pins σ (upd H2 D (.lst [])) s3 := by
    rw [← hs3]
    refine I2.laid (t' := s2.toks) (fun b o e => Heap.get?_push_of_some _ e) (Nat.le_of_eq hD) ⟨Nat.zero_le _, [], 0, .nil, ?_⟩
    rw [← hD]
    exact Heap.get?_push_size _ rfl
  have h3 : s3.heap = s2.heap.push { cls := .type "list", data := .seq ([] : List Value).toArray } := by rw [← hs3]
  have sz : ∀ b ∈ fp, b < s2.heap.objs.size := fun b hb => by
    obtain ⟨o, e, _⟩ := T.obj _ _ st2 b hb
    exact Heap.lt_size e
  have f3 : ∀ b ∈ fp, FpOk X pins (upd H2 D (.lst [])) b ∧ b < s3.heap.objs.size := fun b hb => by
    have hlt := sz b hb
    refine ⟨⟨?_, (f2 b hb).2⟩, by rw [h3, Heap.size_push]; exact Nat.lt_succ_of_lt hlt⟩
    rw [upd_ne (by rw [← hD]; exact Nat.ne_of_lt hlt)]
    exact (f2 b hb).1
  have st3 : tn 0 s3.heap := T.keep _ _ _ st2 fun b _ o e => by rw [h3]; exact Heap.get?_push_of_some _ e
  have I4 := block_start I3 ok hN f3
  have pg := hg s3 (upd H2 D (.lst [])) s3.heap.objs.size (cellsFrom (s3.heap.objs.size + 1) scope.names (cloFrom X.env.cells scope.names [])) fp
  have pt := ht s3 (upd H2 D (.lst [])) s3.heap.objs.size (cellsFrom (s3.heap.objs.size + 1) scope.names (cloFrom X.env.cells scope.names [])) fp
  have pe := he s3 (upd H2 D (.lst [])) s3.heap.objs.size (cellsFrom (s3.heap.objs.size + 1) scope.names (cloFrom X.env.cells scope.names [])) fp
  show codeAny _ _ (.compStart (.ListComp elt [⟨tg, iter, ifs, 0⟩] scope pos) 0 (.ref it) (.ref D) (compEnvC scope (cellsFrom (s3.heap.objs.size + 1) scope.names (cloFrom X.env.cells scope.names [])) s3.heap.objs.size X.env)) (compPost (model X.prog X.w) X.A X.xe use Qf (.ref D) s3.heap.objs.size) { s3 with heap := pushCells (s3.heap.push { cls := .type "dict", data := .dict #[] }) scope.names }
  have nfp : ∀ b ∈ fp, (upd H2 D (.lst [])) b = none := fun b hb => (f3 b hb).1.1
  generalize hce : compEnvC scope (cellsFrom (s3.heap.objs.size + 1) scope.names (cloFrom X.env.cells scope.names [])) s3.heap.objs.size X.env = ce at I4 pg pt pe ⊢
  have cL : ce.locals = s3.heap.objs.size := by subst hce; rfl
  generalize hH3 : upd H2 D (.lst []) = H3 at I3 I4 pg pt pe w0 nfp f3
  generalize hs4 : ({ s3 with heap := pushCells (s3.heap.push { cls := .type "dict", data := .dict #[] }) scope.names } : Shared) = s4 at I4 ⊢
  have st4 : tn 0 s4.heap := T.keep _ _ _ st3 fun b _ o e => by rw [← hs4]; exact pushCells_keeps _ _ _ _ (Heap.get?_push_of_some _ e)
  have stat : ∀ {σ' : St} {H' : Hp} {s' : Shared}, Inv (X.blk s3 H3 scope ce fp) [] σ' H' s' → (∀ b ∈ fp, H' b = none) → ∀ b ∈ fp, FpOk (X.blk s3 H3 scope ce fp) [] H' b := fun {σ' H' s'} I' hn b hb =>
    ⟨hn b hb, (I'.ok.exf b hb).1, I'.ok.exfs b hb, .inl hb, fun x c e => (I'.ok.exf b hb).2 x c e, fun p hp => absurd (show p ∈ ([] : List (Addr × Obj)) ++ [] from hp) (by simp)⟩
  have loop : codeAny (model X.prog X.w) X.A (.compLoop (.ListComp elt [⟨tg, iter, ifs, 0⟩] scope pos) 0 (.ref it) (.ref D) ce) (compPost (model X.prog X.w) X.A X.xe use Qf (.ref D) s3.heap.objs.size) s4 := by
    refine compLoop_any (fun n s' => ∃ i H', Inv (X.blk s3 H3 scope ce fp) [] (wipe σ (own.map (·.2))) H' s' ∧ tn i s'.heap ∧ (∀ b ∈ fp, H' b = none) ∧ W i n H') ?_ m0 ⟨0, H3, I4, st4, nfp, w0⟩
    rintro n s5 ⟨i, H5, I5, st5, n5, w5⟩
    rcases turn i n H5 w5 with ⟨stop, qq⟩ | ⟨go, Nx, hNx, step⟩
    · have td := T.done (X.blk s3 H3 scope ce fp) rfl rfl rfl hc i [] s5 _ H5 (fun _ _ => False) I5 (stat I5 n5) st5 stop
      refine thnF td fun r s6 ⟨hr, I6⟩ => ?_
      subst hr
      -- back in the def's context
      have I7 : Inv X pins σ H5 s6 := I3.call' (ch := fp) I6.os I6.base I6.hok I6.bare fun b hb => ⟨(f3 b hb).1.2.2.2.1, (f3 b hb).1.2.1, (f3 b hb).1.2.2.2.2.1, (f3 b hb).1.2.2.2.2.2⟩
      have nC : H5 s3.heap.objs.size = none := by
        have z : H5 ce.locals = none := I6.free
        rw [cL] at z
        exact z
      obtain ⟨m, hn, _⟩ := I6.loc
      have hn : s6.heap.Ns ce.locals m := hn
      rw [cL] at hn
      exact hRR D s3.heap.objs.size s6 m H5 I7 qq hn (I3.fpOk (Nat.le_refl _) nC)
    · have ti := T.item (X.blk s3 H3 scope ce fp) rfl rfl rfl hc i [] s5 _ H5 (fun _ _ => False) I5 (stat I5 n5) st5 go
      refine thnF ti fun r s6 ⟨u, hr, h6⟩ => ?_
      subst hr
      refine thnF h6 fun _ s7 ⟨x, H7, I7, r7, y7, st7, n7⟩ => ?_
      have I7' := I7.pinned (stat I7 n7) (T.obj _ _ st7)
      refine thnF (pg _ s7 _ H7 x u _ I7' r7 (step x H7 y7)) fun _ s8 ⟨σ8, H8, I8, hw8, q8⟩ => ?_
      refine thnF (pt _ s8 σ8 H8 _ I8 q8) fun b s9 ⟨H9, I9, q9⟩ => ?_
      -- the turn's end
      have fin : ∀ {s' : Shared} {H' : Hp}, Inv (X.blk s3 H3 scope ce fp) ([] ++ pinsAt fp s7.heap) σ8 H' s' → Nx H' → ∃ m, m < n ∧ ∃ i H', Inv (X.blk s3 H3 scope ce fp) [] (wipe σ (own.map (·.2))) H' s' ∧ tn i s'.heap ∧ (∀ b ∈ fp, H' b = none) ∧ W i m H' := fun {s' H'} I' nx => by
        obtain ⟨m', hm, w'⟩ := hNx H' nx
        have pin' : ∀ b ∈ fp, ∀ o, s7.heap.get? b = some o → s'.heap.get? b = some o ∧ H' b = none := fun b hb o e =>
          let z := I'.pin (b, o) (List.mem_append_right _ (List.mem_append_right _ (mem_pinsAt hb e)))
          ⟨z.1, z.2.1⟩
        have hl : (wipe σ (own.map (·.2))).length = σ8.length := by rw [← hw8, wipe_length]
        refine ⟨m', hm, i + 1, H', (I'.unpinned (pins := [])).weak hl (fun j v e => ?_), T.keep _ _ _ st7 fun b hb o e => (pin' b hb o e).1, fun b hb => ?_, w'⟩
        · rw [← hw8] at e
          exact (wipe_some e).1
        · obtain ⟨o, e, _⟩ := T.obj _ _ st7 b hb
          exact (pin' b hb o e).2
      cases b with
      | false =>
        simp only [Bool.false_eq_true, if_false] at q9 ⊢
        exact fin I9 q9
      | true =>
        simp only [if_true] at q9 ⊢
        refine thnF (pe _ s9 σ8 H9 _ I9 q9) fun z s10 ⟨yv, H10, I10, r10, acc, hD10, hz10, nx⟩ => ?_
        exact app_ok (X := X.blk s3 H3 scope ce fp) I10 hD10 hz10 r10 fun s11 I11 => fin I11 nx
  exact codeAny_compStart_list loop (T.self X.A 0 _ _ _ st4 loop)
/-- as a value -/
theorem pe_lc {elt tg iter : Expr} {ifs : List Expr} {scope : Scope} {own : List (Str × Nat)} {pos : Pos} {wi : TI} {g : TG} {tt : TT} {te : TE} (hc : X.calm = true) (hN : X.N.Nodup) (hi : PI X tg iter wi) (ok : BlkOk X.N X.env.scope scope own)
    (hg : ∀ (s : Shared) (H : Hp) (C : Addr) (cl : List (Str × Addr)) (fp : List Addr), PG (X.blk s H scope (compEnvC scope cl C X.env) fp) tg g) (ht : ∀ (s : Shared) (H : Hp) (C : Addr) (cl : List (Str × Addr)) (fp : List Addr), PTs (X.blk s H scope (compEnvC scope cl C X.env) fp) ifs tt)
    (he : ∀ (s : Shared) (H : Hp) (C : Addr) (cl : List (Str × Addr)) (fp : List Addr), PE (X.blk s H scope (compEnvC scope cl C X.env) fp) elt te) (hs : ∀ x, foldedSetIterable iter X.env x = pure x := by intro _; rfl) :
    PE X (.ListComp elt [⟨tg, iter, ifs, 0⟩] scope pos) (tLc wi g tt te (own.map (·.2))) := by
  intro pins s σ H Q I h
  rw [eval_ListComp]
  refine lc_core hc hN I hi ok hg ht he hs h fun D C s' m H' I' q hn f => ⟨m, hn, fun h'' sb => ?_⟩
  obtain ⟨f0, f1, f2, f3, f4, f5⟩ := f
  exact ⟨.ref D, H', I'.turned (t' := s'.toks) (fun b o hb e => (sb.2 b hb).trans e) f0 f1 f3 f4 f5, rfl, q⟩
/-- name = [..] on one line, the name a local -/
theorem ps_setLc {i : Nat} {y : Str} {py : Pos} {elt tg iter : Expr} {ifs : List Expr} {scope : Scope} {own : List (Str × Nat)} {pos spos : Pos} {wi : TI} {g : TG} {tt : TT} {te : TE} (hc : X.calm = true) (hN : X.N.Nodup) (hy : X.N[i]? = some y) (hyl : X.env.scope.names.lookup y = some .local)
    (hsw : swapsWith (.ListComp elt [⟨tg, iter, ifs, 0⟩] scope pos) (some (.Name y py)) spos.line X.env = pure true) (hi : PI X tg iter wi) (ok : BlkOk X.N X.env.scope scope own)
    (hg : ∀ (s : Shared) (H : Hp) (C : Addr) (cl : List (Str × Addr)) (fp : List Addr), PG (X.blk s H scope (compEnvC scope cl C X.env) fp) tg g) (ht : ∀ (s : Shared) (H : Hp) (C : Addr) (cl : List (Str × Addr)) (fp : List Addr), PTs (X.blk s H scope (compEnvC scope cl C X.env) fp) ifs tt)
    (he : ∀ (s : Shared) (H : Hp) (C : Addr) (cl : List (Str × Addr)) (fp : List Addr), PE (X.blk s H scope (compEnvC scope cl C X.env) fp) elt te) (hs : ∀ x, foldedSetIterable iter X.env x = pure x := by intro _; rfl) :
    PS X (.Assign [.Name y py] (.ListComp elt [⟨tg, iter, ifs, 0⟩] scope pos) spos) (tAsg (tLc wi g tt te (own.map (·.2))) (gName i)) := by
  intro pins s σ H D I h
  rw [exec_Assign_Name_used _ _ _ _ hsw]
  refine wpAny_bind (wpAny_standAt (wpAny_bind ?_))
  show wpAny _ X.A (do let _ ← comprehension (.ListComp elt [⟨tg, iter, ifs, 0⟩] scope pos) scope X.env (firstIterPos [⟨tg, iter, ifs, 0⟩] pos) (newList []) false (eval iter X.env) (some (assign (.Name y py) X.env))) _ _ s
  have h : tLc wi g tt te (own.map (·.2)) σ H (fun x H1 => gName i x σ H1 D.nx) := h
  refine wpAny_bind (thn (lc_core (Qf := fun _ s' => SP X pins D .next s') hc hN I hi ok hg ht he hs h fun L C s' m H' I' q hn f => ?_) fun _ s' hq => wpAny_pure (wpAny_pure hq))
  show wpAny _ _ (assign (.Name y py) X.env (.ref L)) _ _ _
  refine wpAny_assign_Name (store_ok2 (v := V.ref L) I' hN hy (.inl hyl) rfl (fun s2 I2 ⟨a, sb, ha⟩ => ?_) (.inr hyl))
  obtain ⟨f0, f1, f2, f3, f4, f5⟩ := f
  have haC : C ≠ a := by
    rcases ha with z | z
    · rw [z]; exact f1
    · exact fun e => f4 y a z e.symm
  refine ⟨m, hn.sameBut sb haC, fun h3 sb3 => ?_⟩
  exact ⟨_, H', I2.turned (t' := s2.toks) (fun b o hb e => (sb3.2 b hb).trans e) f0 f1 f3 f4 f5, q⟩
theorem sw_true {elt : Expr} {gs : List Comprehension} {scope : Scope} {pos py : Pos} {y : Str} {l : Nat} {env : Env} (hk : env.scope.kind = .function) (hy : env.scope.names.lookup y = some .local) (hl : (py.line == pos.line) = true)
    (ha : (scope.names.any fun (n, k) => n == y && (k == .local || k == .cell)) = false) : swapsWith (.ListComp elt gs scope pos) (some (.Name y py)) l env = pure true := by
  have ky : env.kindOf y = some .local := hy
  have hb : env.blockKind = .function := by unfold Env.blockKind; rw [hk]; rfl
  unfold swapsWith
  simp only [hb, ky, ha, Expr.pos, hl]
  rfl
end

/-! ### the forms one uses -/
def blkC (N : List Str) (sc scope : Scope) (own : List (Str × Nat)) : Bool :=
  (match scope.kind with | .function => true | _ => false) && (scope.names.all fun y => decide (scope.names.lookup y.1 = some y.2)) && (own.all fun p => decide (N[p.2]? = some p.1)) &&
    (scope.names.all fun y => match y.2 with
      | .free => (match sc.names.lookup y.1 with | some .cell => true | some .free => true | _ => false)
      | .local => decide (y.1 ∈ own.map (·.1)) || decide (y.1 ∉ N)
      | .cell => decide (y.1 ∈ own.map (·.1)) || decide (y.1 ∉ N)
      | _ => true)
theorem blkOk_by {N : List Str} {sc scope : Scope} {own : List (Str × Nat)} (h : blkC N sc scope own = true) : BlkOk N sc scope own := by
  unfold blkC at h
  simp only [Bool.and_eq_true, List.all_eq_true, decide_eq_true_eq] at h
  obtain ⟨⟨⟨h1, h2⟩, h3⟩, h4⟩ := h
  refine ⟨?_, h2, h3, fun y hy e => ?_, fun y hy e => ?_⟩
  · split at h1
    · assumption
    · cases h1
  · have q := h4 y hy
    simp only [e] at q
    split at q <;> first | exact .inl (by assumption) | exact .inr (by assumption) | cases q
  · have q := h4 y hy
    rcases e with e | e <;> (simp only [e, Bool.or_eq_true, decide_eq_true_eq] at q; exact q)
end L2

namespace L2
open PySem PySem.Spec PyProof.Rows

section
variable {prog : Program} {w : World} {A : Around} {R : Result → Shared → Prop} {s : Shared} {elt t0 i0 t1 i1 : Expr} {ifs0 ifs1 : List Expr} {scope : Scope} {pos : Pos} {it acc : Value} {env : Env}
end

section
variable {X : Cx}
end
end L2

namespace L2
open PySem PySem.Spec PyProof.Rows

/-! ### lists of pairs as tables -/
section
variable {κ : Type} [DecidableEq κ]
def valV (kvs : List (κ × V)) (k : κ) : Option V := (kvs.find? fun kv => decide (kv.1 = k)).map (·.2)
/-- in its place, or at the end -/
def putK (kvs : List (κ × V)) (k : κ) (v : V) : List (κ × V) :=
  if (kvs.any fun kv => decide (kv.1 = k)) = true then kvs.map (fun kv => if kv.1 = k then (kv.1, v) else kv) else kvs ++ [(k, v)]
def dropK (kvs : List (κ × V)) (k : κ) : List (κ × V) := kvs.filter fun kv => decide (kv.1 ≠ k)

theorem valV_pos {p : κ × V} {r : List (κ × V)} {k : κ} (e : p.1 = k) : valV (p :: r) k = some p.2 := by simp [valV, List.find?_cons, e]
theorem valV_neg {p : κ × V} {r : List (κ × V)} {k : κ} (e : ¬ p.1 = k) : valV (p :: r) k = valV r k := by simp [valV, List.find?_cons, e]
theorem valV_any (k : κ) : ∀ kvs : List (κ × V), (kvs.any fun kv => decide (kv.1 = k)) = (valV kvs k).isSome
  | [] => rfl
  | p :: r => by
    rw [List.any_cons]
    by_cases e : p.1 = k
    · simp only [valV_pos e, decide_eq_true e, Bool.true_or, Option.isSome_some]
    · rw [valV_neg e, decide_eq_false e, Bool.false_or]; exact valV_any k r
theorem RelO.isSome_eq {o : Option V} {u : Option Value} (r : RelO o u) : o.isSome = u.isSome := by
  cases o with
  | none => cases u with
    | none => rfl
    | some _ => exact (show False from r).elim
  | some _ => cases u with
    | none => exact (show False from r).elim
    | some _ => rfl
theorem RelO.getD {o : Option V} {u : Option Value} {d : V} {d' : Value} (r : RelO o u) (rd : RelV d d') : RelV (o.getD d) (u.getD d') := by
  cases o with
  | none => cases u with
    | none => exact rd
    | some _ => exact (show False from r).elim
  | some _ => cases u with
    | none => exact (show False from r).elim
    | some _ => exact r

/-- raw tables of the same keys -/
theorem KV.val {kvs : List (κ × V)} {vs : List (κ × Value)} (r : KV kvs vs) (k : κ) : RelO (valV kvs k) (valueAt vs k) := by
  unfold KV at r
  induction r with
  | nil => exact True.intro
  | @cons p q ps qs h t ih =>
    obtain ⟨h1, h2⟩ := h
    by_cases e : p.1 = k
    · have e' : q.1 = k := h1.symm.trans e
      have b : valueAt (q :: qs) k = some q.2 := by simp [valueAt, List.find?_cons, e']
      rw [valV_pos e, b]; exact h2
    · have e' : ¬ q.1 = k := fun z => e (h1.trans z)
      have b : valueAt (q :: qs) k = valueAt qs k := by simp [valueAt, List.find?_cons, e']
      rw [valV_neg e, b]; exact ih
theorem KV.any {kvs : List (κ × V)} {vs : List (κ × Value)} (r : KV kvs vs) (k : κ) : (kvs.any fun kv => decide (kv.1 = k)) = vs.any fun kv => decide (kv.1 = k) := by
  unfold KV at r
  induction r with
  | nil => rfl
  | cons h t ih => rw [List.any_cons, List.any_cons, ih, h.1]
theorem KV.repl {kvs : List (κ × V)} {vs : List (κ × Value)} (r : KV kvs vs) (k : κ) {y : V} {u : Value} (ry : RelV y u) :
    KV (kvs.map fun kv => if kv.1 = k then (kv.1, y) else kv) (vs.map fun kv => if kv.1 = k then (kv.1, u) else kv) := by
  unfold KV at r ⊢
  induction r with
  | nil => exact .nil
  | @cons p q ps qs h t ih =>
    rw [List.map_cons, List.map_cons]
    refine .cons ?_ ih
    obtain ⟨h1, h2⟩ := h
    by_cases e : p.1 = k
    · rw [if_pos e, if_pos (h1.symm.trans e)]; exact ⟨h1, ry⟩
    · rw [if_neg e, if_neg (fun z => e (h1.trans z))]; exact ⟨h1, h2⟩
theorem KV.put {kvs : List (κ × V)} {vs : List (κ × Value)} (r : KV kvs vs) (k : κ) {y : V} {u : Value} (ry : RelV y u) : KV (putK kvs k y) (stored vs k u) := by
  unfold putK stored
  rw [r.any k]
  by_cases e : (vs.any fun kv => decide (kv.1 = k)) = true
  · rw [if_pos e, if_pos e]; exact r.repl k ry
  · rw [if_neg e, if_neg e]; exact Paired.snoc r ⟨rfl, ry⟩
theorem KV.drop {kvs : List (κ × V)} {vs : List (κ × Value)} (r : KV kvs vs) (k : κ) : KV (dropK kvs k) (without vs k) := by
  unfold KV at r ⊢
  unfold dropK without
  induction r with
  | nil => exact .nil
  | @cons p q ps qs h t ih =>
    obtain ⟨h1, h2⟩ := h
    rw [List.filter_cons, List.filter_cons]
    by_cases e : p.1 = k
    · have a : ¬ decide (p.1 ≠ k) = true := by simp [e]
      have b : ¬ decide (q.1 ≠ k) = true := by simp [h1.symm.trans e]
      rw [if_neg a, if_neg b]; exact ih
    · have e' : ¬ q.1 = k := fun z => e (h1.trans z)
      have a : decide (p.1 ≠ k) = true := by simp [e]
      have b : decide (q.1 ≠ k) = true := by simp [e']
      rw [if_pos a, if_pos b]; exact .cons ⟨h1, h2⟩ ih
theorem KV.keys {kvs : List (κ × V)} {vs : List (κ × Value)} (r : KV kvs vs) : kvs.map (·.1) = vs.map (·.1) := by
  unfold KV at r
  induction r with
  | nil => rfl
  | cons h t ih => rw [List.map_cons, List.map_cons, ih, h.1]
theorem KV.length {kvs : List (κ × V)} {vs : List (κ × Value)} (r : KV kvs vs) : kvs.length = vs.length := Paired.length r
end


/-! ### a tracked dict, its keys ints and texts or tuples of these -/
theorem kV_is {P : Program} {w : World} {k : Key} {u : Value} (r : RelV (kV k) u) : (mixKind P w).is k u = true := by
  cases k with
  | inl i => obtain ⟨t, e⟩ := (show ∃ t, u = Value.int i t from r); subst e; exact mixKind_int P w i t
  | inr x => obtain ⟨t, e⟩ := (show ∃ t, u = Value.str x t from r); subst e; exact mixKind_str P w x t
theorem items_are {P : Program} {w : World} : ∀ {ks : List Key} {us : List Value}, Vals (ks.map kV) us → ItemsAre (mixKind P w) ks us
  | [], _, r => by rw [List.map_nil] at r; cases r; exact .nil
  | k :: ks, _, r => by
    rw [List.map_cons] at r
    cases r with
    | cons h t => exact .cons (kV_is h) (items_are t)

/-- raw entries of a dict with tuple keys -/
abbrev KT (H : Hp) : List (List Key × V) → List (List Key × Addr × Value) → Prop := Paired fun p q => p.1 = q.1 ∧ H q.2.1 = some (.tup (p.1.map kV)) ∧ RelV p.2 q.2.2
theorem KT.val {H : Hp} {kvs : List (List Key × V)} {xs : List (List Key × Addr × Value)} (r : KT H kvs xs) (k : List Key) : RelO (valV kvs k) ((atKey xs k).map (·.2)) := by
  induction r with
  | nil => exact True.intro
  | @cons p q ps qs h t ih =>
    obtain ⟨h1, _, h2⟩ := h
    by_cases e : p.1 = k
    · have e' : q.1 = k := h1.symm.trans e
      have b : atKey (q :: qs) k = some q.2 := by simp [atKey, List.find?_cons, e']
      rw [valV_pos e, b]; exact h2
    · have e' : ¬ q.1 = k := fun z => e (h1.trans z)
      have b : atKey (q :: qs) k = atKey qs k := by simp [atKey, List.find?_cons, e']
      rw [valV_neg e, b]; exact ih
theorem KT.repl {H : Hp} {kvs : List (List Key × V)} {xs : List (List Key × Addr × Value)} (r : KT H kvs xs) (k : List Key) {y : V} {u : Value} (ry : RelV y u) :
    KT H (kvs.map fun kv => if kv.1 = k then (kv.1, y) else kv) (xs.map (putAt k u)) := by
  induction r with
  | nil => exact .nil
  | @cons p q ps qs h t ih =>
    rw [List.map_cons, List.map_cons]
    refine .cons ?_ ih
    obtain ⟨h1, h2, h3⟩ := h
    unfold putAt
    by_cases e : p.1 = k
    · rw [if_pos e, if_pos (h1.symm.trans e)]; exact ⟨h1, h2, ry⟩
    · rw [if_neg e, if_neg (fun z => e (h1.trans z))]; exact ⟨h1, h2, h3⟩
theorem KT.put {H : Hp} {kvs : List (List Key × V)} {xs : List (List Key × Addr × Value)} (r : KT H kvs xs) (k : List Key) {b : Addr} {y : V} {u : Value} (hb : H b = some (.tup (k.map kV))) (ry : RelV y u) :
    KT H (putK kvs k y) (storedH xs k b u) := by
  have e : (kvs.any fun kv => decide (kv.1 = k)) = (atKey xs k).isSome := by
    rw [valV_any, (r.val k).isSome_eq, Option.isSome_map]
  unfold putK storedH
  rw [e]
  by_cases q : (atKey xs k).isSome = true
  · rw [if_pos q, if_pos q]; exact r.repl k ry
  · rw [if_neg q, if_neg q]; exact Paired.snoc r ⟨rfl, hb, ry⟩
theorem KT.keeps {H H' : Hp} {kvs : List (List Key × V)} {xs : List (List Key × Addr × Value)} (r : KT H kvs xs) (ht : ∀ b ys, H b = some (.tup ys) → H' b = some (.tup ys)) : KT H' kvs xs :=
  Paired.mapP r fun _ _ z => ⟨z.1, ht _ _ z.2.1, z.2.2⟩

section
variable {P : Program} {w : World} {H : Hp} {h : Heap} {a : Addr}
/-- a tracked tuple of ints and texts is a key -/
theorem key_of {ks : List Key} (ok : HOk P w H h) (e : H a = some (.tup (ks.map kV))) : (tupleKind (mixKind P w)).is h ks a := by
  obtain ⟨_, its, r, o, h1, h2, n, h3⟩ := (show ObjOk P w H h a (.tup (ks.map kV)) from ok a _ e)
  exact ⟨o, its.toArray, n, h1, h2, h3, by simpa using items_are r⟩
end

/-- what the dict at a holds at the key y -/
def DGet (H : Hp) (a : Addr) (y : V) (r : Option V) : Prop :=
  (∃ kvs k, Rd H a (.dK kvs) ∧ y = kV k ∧ r = valV kvs k) ∨ ∃ kvs k b, Rd H a (.dT kvs) ∧ y = .ref b ∧ H b = some (.tup (k.map kV)) ∧ r = valV kvs k
/-- the heap behind a[y] = v -/
def DPut (H : Hp) (a : Addr) (y v : V) (H' : Hp) : Prop :=
  (∃ kvs k, H a = some (.dK kvs) ∧ y = kV k ∧ kvs.length < sizeLine ∧ H' = upd H a (.dK (putK kvs k v))) ∨
  ∃ kvs k b, H a = some (.dT kvs) ∧ y = .ref b ∧ H b = some (.tup (k.map kV)) ∧ kvs.length < sizeLine ∧ H' = upd H a (.dT (putK kvs k v))
theorem DGet.k {H : Hp} {a : Addr} {kvs : List (Key × V)} {k : Key} (e : H a = some (.dK kvs)) : DGet H a (kV k) (valV kvs k) := .inl ⟨kvs, k, .inl e, rfl, rfl⟩
theorem DGet.t {H : Hp} {a b : Addr} {kvs : List (List Key × V)} {k : List Key} (e : H a = some (.dT kvs)) (eb : H b = some (.tup (k.map kV))) : DGet H a (.ref b) (valV kvs k) := .inr ⟨kvs, k, b, .inl e, rfl, eb, rfl⟩
theorem DPut.k {H : Hp} {a : Addr} {kvs : List (Key × V)} {k : Key} {v : V} (e : H a = some (.dK kvs)) (hl : kvs.length < sizeLine) : DPut H a (kV k) v (upd H a (.dK (putK kvs k v))) := .inl ⟨kvs, k, e, rfl, hl, rfl⟩
theorem DPut.t {H : Hp} {a b : Addr} {kvs : List (List Key × V)} {k : List Key} {v : V} (e : H a = some (.dT kvs)) (eb : H b = some (.tup (k.map kV))) (hl : kvs.length < sizeLine) :
    DPut H a (.ref b) v (upd H a (.dT (putK kvs k v))) := .inr ⟨kvs, k, b, e, rfl, eb, hl, rfl⟩


section
variable {X : Cx} {pins : List (Addr × Obj)} {σ : St} {H : Hp} {s : Shared} {a : Addr} {y v : V} {u r : Value} {o : Option V} {A : Around} {E : Value → Shared → Prop}

theorem Inv.big (I : Inv X pins σ H s) : sysModules < s.heap.objs.size := by
  have h : mainGlobals < s.heap.objs.size := (I.mod.glob.keeps I.bk).lt
  exact Nat.lt_trans (by decide) h

end

section
variable {X : Cx} {pins : List (Addr × Obj)} {σ : St} {H : Hp} {s : Shared} {a : Addr} {kvs : List (Key × V)} {k : Key} {u : Value} {A : Around} {E : Value → Shared → Prop}
end


/-! ### readings and rules -/
section
variable {X : Cx} {o i e value : Expr} {pos pos' tpos : Pos} {td ty tv : TE}
end


/-! ### displays -/
section
variable {X : Cx} {pos : Pos}
end

def mergeK (kvs more : List (Key × V)) : List (Key × V) := more.foldl (fun acc kv => putK acc kv.1 kv.2) kvs
theorem KV.merge : ∀ {more : List (Key × V)} {rs : List (Key × Value)} {kvs : List (Key × V)} {vs : List (Key × Value)}, KV more rs → KV kvs vs → KV (mergeK kvs more) (merged vs rs) := by
  intro more rs kvs vs r
  unfold KV at r
  induction r generalizing kvs vs with
  | nil => intro q; exact q
  | @cons p q ps qs h t ih =>
    intro r0
    have e : KV (putK kvs p.1 p.2) (stored vs q.1 q.2) := by
      have := r0.put p.1 h.2
      rw [← h.1]; exact this
    exact ih e
/-! ### methods -/
/-- a method call o.m(e) of a built-in, with one argument: what must be seen of the text -/
structure M1 (X : Cx) (o : Expr) (m : Str) (apos : Pos) (e : Expr) (cpos : Pos) : Prop where
  base : attributeBase o m X.env (eval o X.env) = eval o X.env
  few : ((backTo cpos (starEach [e] X.env)).all (fun x => !x.1) && (backToKw cpos (keywordEach [] X.env)).all (fun x => x.1.isSome)
    && decide (([e] : List Expr).length + ([] : List Keyword).length + (if ([] : List Keyword).isEmpty then 0 else 1) < 30)) = true
  line : (apos.endLine == cpos.line) = true
  trees : backTo cpos (starEach [e] X.env) = [(false, eval e X.env)]
structure M2 (X : Cx) (o : Expr) (m : Str) (apos : Pos) (e f : Expr) (cpos : Pos) : Prop where
  base : attributeBase o m X.env (eval o X.env) = eval o X.env
  few : ((backTo cpos (starEach [e, f] X.env)).all (fun x => !x.1) && (backToKw cpos (keywordEach [] X.env)).all (fun x => x.1.isSome)
    && decide (([e, f] : List Expr).length + ([] : List Keyword).length + (if ([] : List Keyword).isEmpty then 0 else 1) < 30)) = true
  line : (apos.endLine == cpos.line) = true
  trees : backTo cpos (starEach [e, f] X.env) = [(false, eval e X.env), (false, eval f X.env)]

section
variable {X : Cx} {pins : List (Addr × Obj)} {σ : St} {H : Hp} {s : Shared} {a : Addr} {y d : V} {u r : Value} {o : Option V} {A : Around} {E : Value → Shared → Prop}
end

section
variable {X : Cx} {o e f : Expr} {apos cpos : Pos} {td ty tx : TE}
end

/-! ### dict(d): a copy -/
section
variable {X : Cx} {pins : List (Addr × Obj)} {σ : St} {H : Hp} {s : Shared} {a : Addr} {kvs : List (Key × V)} {A : Around} {E : Value → Shared → Prop}
end


section
variable {X : Cx} {pins : List (Addr × Obj)} {σ : St} {H : Hp} {s : Shared} {a : Addr} {y : V} {u : Value} {A : Around} {E : Value → Shared → Prop}
end
end L2

namespace L2
open PySem PySem.Spec PyProof.Rows

section
variable {prog : Program} {w : World} {A : Around} {E : Value → Shared → Prop}
end

section
variable {X : Cx}
end
end L2

namespace L2
open PySem PySem.Spec PyProof.Rows

section
variable {X : Cx} {pins : List (Addr × Obj)} {σ : St} {H : Hp} {s : Shared} {h' : Heap}
/-- several records of ours have turned -/
theorem Inv.turnedL {t' : Nat} {ch : List Addr} (I : Inv X pins σ H s) (k : ∀ b o, b ∉ ch → s.heap.get? b = some o → h'.get? b = some o) (hf : ∀ b ∈ ch, FpOk X pins H b) : Inv X pins σ H { s with heap := h', toks := t' } := by
  have nit : ∀ b u, H b = some u → b ∉ ch := fun b u e z => by
    have q := (hf b z).1
    rw [q] at e; cases e
  refine I.step (g' := s.gens) (d' := s.drawn) (ch := ch) (fun b hb => ⟨(hf b hb).2.2.2.1, (hf b hb).2.1, (hf b hb).2.2.2.2.1, (hf b hb).2.2.2.2.2⟩) (fun b o _ _ hc e _ => k b o hc e) (fun b o _ _ hc e _ => ⟨o.slots, k b o hc e⟩)
    (fun _ _ _ _ n => n) (fun b o hc e => ⟨o, k b o hc e⟩) (fun _ _ e => e) (fun _ _ _ e => e) (fun b ps e => ⟨#[], by rw [e]; simp⟩) (fun m hm => ?_) (fun b u e => ?_) I.bare
  · obtain ⟨o, es, ep, ho, r⟩ := hm
    exact ⟨o, es, ep, k _ o (fun z => (hf _ z).2.1 rfl) ho, r⟩
  · refine (I.hok b u e).stay (fun c v hc q => k c v ?_ q) (fun _ q => q) fun _ _ q => q
    rcases hc with z | z
    · rw [z]; exact nit b u e
    · exact nit c _ z
/-- .. and one new object is laid -/
theorem Inv.turnedNew {t' : Nat} {ch : List Addr} {T : Addr} {ob : HO} (I : Inv X pins σ H s) (k : ∀ b o, b ∉ ch → s.heap.get? b = some o → h'.get? b = some o) (hf : ∀ b ∈ ch, FpOk X pins H b) (hT : s.heap.objs.size ≤ T)
    (new : ObjOk X.prog X.w (upd H T ob) h' T ob) : Inv X pins σ (upd H T ob) { s with heap := h', toks := t' } := by
  have hn : H T = none := I.hok.fresh hT
  have nit : ∀ b u, H b = some u → b ∉ ch := fun b u e z => by
    have q := (hf b z).1
    rw [q] at e; cases e
  refine I.step (g' := s.gens) (d' := s.drawn) (ch := ch) (fun b hb => ⟨(hf b hb).2.2.2.1, (hf b hb).2.1, (hf b hb).2.2.2.2.1, (hf b hb).2.2.2.2.2⟩) (fun b o _ _ hc e _ => k b o hc e) (fun b o _ _ hc e _ => ⟨o.slots, k b o hc e⟩)
    (fun b o _ e n => ?_) (fun b o hc e => ⟨o, k b o hc e⟩) (fun b xs e => ?_) (fun b o u e => ?_) (fun b ps e => ⟨#[], ?_⟩) (fun m hm => ?_) (fun b u e => ?_) I.bare
  · rw [upd_ne (Nat.ne_of_lt (Nat.lt_of_lt_of_le (Heap.lt_size e) hT))]; exact n
  · rw [upd_ne (ne_of_none e hn)]; exact e
  · rw [upd_ne (ne_of_none e hn)]; exact e
  · rw [upd_ne (ne_of_none e hn), e]; simp
  · obtain ⟨o, es, ep, ho, r⟩ := hm
    exact ⟨o, es, ep, k _ o (fun z => (hf _ z).2.1 rfl) ho, r⟩
  · by_cases hb : b = T
    · subst hb
      rw [upd_same] at e
      cases e
      exact new
    · rw [upd_ne hb] at e
      refine (I.hok b u e).stay (fun c v hc q => k c v ?_ q) (fun c q => by rw [upd_ne (ne_of_none q hn)]; exact q) fun c xs q => by rw [upd_ne (ne_of_none q hn)]; exact q
      rcases hc with z | z
      · rw [z]; exact nit b u e
      · exact nit c _ z

/-! ### locking a thing while a statement runs -/
end
section
variable {X : Cx}
/-! ### one iterator just laid -/
theorem pi_one {tg : Expr} {pins : List (Addr × Obj)} {σ : St} {H : Hp} {s : Shared} {R : It → Hp → Prop} {J : It} {tn : Nat → Heap → Prop} {tk : Nat} (I : Inv X pins σ H s) (o : Obj)
    (T : Turn X.prog X.w X.K tg J [s.heap.objs.size] s.heap.objs.size tn) (st : tn 0 (s.heap.push o)) (q : R J H) : PIE X pins σ tg R (.ref s.heap.objs.size) { s with heap := s.heap.push o, toks := tk } := by
  refine ⟨s.heap.objs.size, [s.heap.objs.size], tn, J, H, rfl, I.kept fun b ob e => Heap.get?_push_of_some _ e, T, st, fun b hb => ?_, q⟩
  have e : b = s.heap.objs.size := by simpa using hb
  subst e
  exact I.fpOk (Nat.le_refl _) (I.hok.fresh (Nat.le_refl _))
end

/-! ### range with a step -/
/-- lo, lo + c, .. (n of them) -/
def Itc (lo c : Int) (n : Nat) : It := ⟨fun i _ => i < n, fun i H x H' => H' = H ∧ x = .int (lo + (i : Nat) * c), fun i _ => n ≤ i⟩
theorem turn_rangeC {P : Program} {w : World} {K : PySem.W.Frag} {tg : Expr} (it : Addr) (lo c : Int) (n : Nat) : Turn P w K tg (Itc lo c n) [it] it (fun i h => IsRangeIter h it (lo + (i : Nat) * c) ((n : Int) - (i : Nat)) c) where
  mem := by simp
  obj := fun i h st b hb => by
    have e : b = it := by simpa using hb
    subst e
    exact ⟨_, st, fun v z => nomatch z⟩
  keep := fun i h h' st k => k it (by simp) _ st
  item := by
    intro X hP hw hK hc i pins s σ H E I hf st hg
    subst hP hw hK
    obtain ⟨f0, f1, f2, f3, f4, f5⟩ := hf it (by simp)
    have W := Walks.range (prog := X.prog) (w := X.w) (I.ok.hd hc) it lo c n
    refine W.item i s _ _ hg st fun v h' tk hv st' kk => ?_
    obtain ⟨t, rfl⟩ := hv
    have I1 : Inv X pins σ H { s with heap := h', toks := tk } := I.turned (fun b o hb e => kk b o (by simpa using hb) e) f0 f1 f3 f4 f5
    exact ⟨_, rfl, go_of (s := { s with heap := h', toks := tk }) (n := "range_iterator") st' rfl rfl (by decide) ⟨.int (lo + (i : Nat) * c), H, I1, ⟨t, rfl⟩, ⟨rfl, rfl⟩, st', fun b hb => (hf b hb).1⟩⟩
  done := by
    intro X hP hw hK hc i pins s σ H E I hf st hg
    subst hP hw hK
    obtain ⟨f0, f1, f2, f3, f4, f5⟩ := hf it (by simp)
    exact wpAny_pyNext_range_end (I.ok.hd hc) st (by have : n ≤ i := hg; omega) fun h' eb => ⟨rfl, I.turned (t' := s.toks) (fun b o hb e => eb b o hb e) f0 f1 f3 f4 f5⟩
  self := fun A i s Q E st h => wpAny_pyIter_rangeiter st h
/-- range(i, j, c): small bounds, n items -/
def RgC (i j c : Int) (n : Nat) : Prop := c ≠ 0 ∧ c.natAbs < 1073741824 ∧ Builtin.Range.small i j c = true ∧ Builtin.Range.rangeSize i j c = n
theorem RgC.neg {i j : Int} (ha : -(2 ^ 62) ≤ i) (ha' : i < 2 ^ 62) (hb : -(2 ^ 62) ≤ j) (hb' : j < 2 ^ 62) : RgC i j (-1) (i - j).toNat :=
  ⟨by decide, by decide, PySem.W.small_down ha ha' hb hb', PySem.W.rangeSize_downNat i j⟩
def iRng3 (ta : TA) : TI := fun σ H R => ta σ H fun vs H1 => ∃ (i j c : Int) (n : Nat), vs = [.int i, .int j, .int c] ∧ RgC i j c n ∧ R (Itc i c n) H1
section
variable {X : Cx} {tg : Expr}
theorem pi_range3 {a b c : Expr} {ta : TA} {p pos : Pos} (hg : Gl X "range") (hm : X.mg "range" = none) (ha : PA X [a, b, c] ta)
    (hs : starEach [a, b, c] X.env = (false, eval a X.env) :: starEach [b, c] X.env := by rfl) (hpl : (backTo pos (starEach [b, c] X.env)).any (·.1) = false := by rfl) :
    PI X tg (.Call (.Name "range" p) [a, b, c] [] pos) (iRng3 ta) := by
  intro pins s σ H R I h
  refine Call_ (ld_blt I hg hm boot_range (PyProof.Rows.callWith_type1 (thn (ha pos pins s σ H _ I h) fun us s1 ⟨vs, H1, I1, r1, q1⟩ => ?_) hs hpl))
  obtain ⟨i, j, k, n, e, ⟨c0, c1, c2, c3⟩, q⟩ := q1
  subst e
  cases r1 with
  | cons r rr =>
    cases rr with
    | cons r' rr =>
      cases rr with
      | cons r'' rr =>
        cases rr
        obtain ⟨t, rfl⟩ := r
        obtain ⟨t', rfl⟩ := r'
        obtain ⟨t'', rfl⟩ := r''
        refine call_range_3 c0 ?_ (.inl (PyProof.noPylong_small c1))
        refine wpAny_pyIter_range (IsRange.new ..) c2 ?_
        have I2 : Inv X pins σ H1 { s1 with heap := s1.heap.push { cls := .type "range", data := .fields #[.int i t, .int j t', .int k t''] } } := I1.kept (t' := s1.toks) fun b o e => Heap.get?_push_of_some _ e
        refine pi_one (tk := s1.toks) I2 _ (turn_rangeC _ i k n) ?_ q
        have e1 : i + ((0 : Nat) : Int) * k = i := by simp
        have e2 : (n : Int) - ((0 : Nat) : Int) = Builtin.Range.rangeSize i j k := by rw [c3]; simp
        show IsRangeIter _ _ (i + ((0 : Nat) : Int) * k) ((n : Int) - ((0 : Nat) : Int)) k
        rw [e1, e2]
        exact Heap.get?_push_size _ rfl
end
/-- the turns of a step range, for the for loop -/
theorem for_rangeC {lo c : Int} {n : Nat} {g : TG} {tb : TS} {D : Ends} {σ : St} {H : Hp} (Pv : Nat → St → Hp → Prop) (h0 : Pv 0 σ H)
    (hs : ∀ i σ H, i < n → Pv i σ H → g (.int (lo + (i : Nat) * c)) σ H fun σ2 H2 => tb { D with nx := Pv (i + 1), ct := Pv (i + 1), bk := D.nx } σ2 H2) (hd : ∀ σ H, Pv n σ H → D.nx σ H) :
    ∃ W : Nat → Nat → St → Hp → Prop, (∃ m, W 0 m σ H) ∧ ∀ i m σ H, W i m σ H →
      ((Itc lo c n).stop i H ∧ D.nx σ H) ∨ ((Itc lo c n).go i H ∧ ∃ N : St → Hp → Prop, (∀ σ' H', N σ' H' → ∃ m', m' < m ∧ W (i + 1) m' σ' H') ∧ ∀ x H', (Itc lo c n).yld i H x H' → g x σ H' fun σ2 H2 => tb { D with nx := N, ct := N, bk := D.nx } σ2 H2) := by
  refine ⟨fun i m σ H => m = n - i ∧ i ≤ n ∧ Pv i σ H, ⟨n, by simp, Nat.zero_le _, h0⟩, ?_⟩
  rintro i m σ H ⟨rfl, hi, p⟩
  by_cases hlt : i < n
  · refine .inr ⟨hlt, Pv (i + 1), fun σ' H' p' => ⟨n - (i + 1), by omega, rfl, hlt, p'⟩, fun x H' y => ?_⟩
    obtain ⟨e, y⟩ := y
    subst e y
    exact hs i σ _ hlt p
  · have e : i = n := by omega
    subst e
    exact .inl ⟨Nat.le_refl _, hd σ H p⟩

/-! ### reversed(list) -/
section
variable {X : Cx} {tg : Expr}
end

/-! ### a str -/
/-! ### a dict's keys: any dict's entries -/
section
variable {prog : Program} {w : World} {A : Around} {E : Value → Shared → Prop} {s : Shared}
theorem next_key_end {it d : Addr} {i n ep : Nat} {od : Obj} {es : Array DictEntry} {Q : Option Value → Shared → Prop} (hh : A.handled = none) (hit : s.heap.IsKeyIter it d i n ep) (hod : s.heap.get? d = some od) (hdd : od.data = .dict es ep)
    (hsz : es.size = n) (hge : n ≤ i) (hQ : ∀ h', Heap.ExtBut it s.heap h' → Q none { s with heap := h' }) : wpAny (model prog w) A (pyNext (.ref it)) Q E s := by
  obtain ⟨o, ho, hc, hd⟩ := id hit
  unfold pyNext
  refine wpAny_bind (wpAny_attempt (wpAny_callSpecial?_slot (name := Str.ofString "__next__") hit.typeIs F.slot_dict_keyiterator_next
    (wpAny_call_entry F.slot_dict_keyiterator_next hit.typeIs F.entry_dict_keyiterator_next ?_ (F.args_dict_keyiterator_next_1 _))))
  refine wpAny_bind (wpAny_pure ?_)
  refine wpAny_bind ?_
  refine wpAny_bind ?_
  first | refine wpAny_bind (wpAny_typeNameOfWhole_keyiter hit.typeIs (wpAny_pure ?_)) | refine wpAny_bind (wpAny_typeNameOf_keyiter hit.typeIs (wpAny_pure ?_))
  refine wpAny_bind (wpAny_fieldsOf ho hd ?_)
  have hown : Builtin.Dict_items.ownsTuple "dict_keyiterator" = false := by decide
  simp only [hown, Bool.false_eq_true, if_false]
  show wpAny _ _ (if (Value.ref d == Value.none) = true then _ else _) _ _ s
  rw [if_neg (show ¬ ((Value.ref d == Value.none) = true) from Bool.false_ne_true)]
  refine wpAny_bind (wpAny_pure ?_)
  refine wpAny_bind (wpAny_dictEntries hod hdd ?_)
  rw [if_neg (by rw [hsz]; simp)]
  refine wpAny_bind (wpAny_pure ?_)
  refine wpAny_bind (wpAny_dictEpoch hod hdd ?_)
  rw [if_neg (by simp)]
  refine wpAny_pure ?_
  have hge' : es.size ≤ i := by rw [hsz]; exact hge
  simp only [show ¬ ((i : Int) < 0) from by omega, if_false, Int.toNat_natCast, Array.getElem?_eq_none hge']
  refine wpAny_bind ?_
  first | refine wpAny_bind (wpAny_typeNameOfWhole_keyiter hit.typeIs (wpAny_pure ?_)) | refine wpAny_bind (wpAny_typeNameOf_keyiter hit.typeIs (wpAny_pure ?_))
  show wpAny _ _ (setField (.ref it) 0 .none >>= _) _ _ s
  refine wpAny_bind (wpAny_setField ho hd (by simp) ?_)
  show wpAny _ _ (newExc (.type "StopIteration") [] >>= _) _ _ _
  refine wpAny_bind ?_
  simp only [newExc, newTuple]
  refine wpAny_bind (wpAny_newObj_type ?_ (by size_fits))
  refine wpAny_bind (m := firstArgMember _ _) (wpAny_of_eq (a := Value.none) (by first | rfl | (simp only [firstArgMember]; rfl)) ?_)
  refine wpAny_newObj_type ?_ (by size_fits)
  simp only [raiseNew]
  refine wpAny_bind (wpAny_handled ?_)
  rw [show A.in1.handled = none from hh]
  refine wpAny_bind (wpAny_pure (wpAny_throw ?_))
  refine wpAny_bind (wpAny_isInstance (T := "StopIteration") (b := true) ⟨_, Heap.get?_push_size _ rfl, rfl⟩ isSubtype_stop ?_)
  exact wpAny_pure (hQ _ (((Heap.SameBut.update ..).extBut.push _).push _))
end

/-! ### a locked dict -/
theorem kv_get {κ : Type} {kvs : List (κ × V)} {vs : List (κ × Value)} (h : KV kvs vs) : ∀ {i : Nat} {k : κ} {v : V}, kvs[i]? = some (k, v) → ∃ u, vs[i]? = some (k, u) ∧ RelV v u := by
  unfold KV at h
  induction h with
  | nil => intro i k v e; simp at e
  | @cons a b l₁ l₂ r t ih =>
    intro i k v e
    cases i with
    | zero =>
      simp only [List.getElem?_cons_zero, Option.some.injEq] at e
      subst e
      refine ⟨b.2, ?_, r.2⟩
      simp only [List.getElem?_cons_zero]
      exact congrArg some (Prod.ext r.1.symm rfl)
    | succ j =>
      simp only [List.getElem?_cons_succ] at e ⊢
      exact ih e
theorem relV_key {k : Key} {u : Value} (h : keyIs k u = true) : RelV (kV k) u := by
  rcases keyIs_shape h with ⟨i, t, rfl, rfl⟩ | ⟨x, t, rfl, rfl⟩
  · exact ⟨t, rfl⟩
  · exact ⟨t, rfl⟩
section
variable {X : Cx} {pins : List (Addr × Obj)} {σ : St} {H : Hp} {s : Shared} {d : Addr} {o : Obj}
theorem Inv.frzK {kvs : List (Key × V)} (I : Inv X pins σ H s) (h : H d = some (.frz o (.dK kvs))) :
    (d == sysModules) = false ∧ s.heap.get? d = some o ∧ o.ExactDict ∧ ∃ (es : Array DictEntry) (ep : Nat) (vs : List (Key × Value)), o.data = .dict es ep ∧ es.size = kvs.length ∧ KV kvs vs ∧ s.heap.DictAt (mixKind X.prog X.w) d vs ep := by
  obtain ⟨hd, z, hs, vs, kv, o', es, ep, ho, hx, hdt, r⟩ := I.hok d _ h
  rw [hd] at ho
  cases ho
  refine ⟨hs, hd, hx, es, ep, vs, hdt, ?_, kv, o, es, hd, hx, hdt, r⟩
  have l1 := r.2.1.length
  have l2 : kvs.length = vs.length := Paired.length kv
  rw [Array.length_toList] at l1
  omega
end

/-- the keys of the locked dict at d, in their order -/
def Itk (d : Addr) (o : Obj) (kvs : List (Key × V)) : It :=
  ⟨fun i H => H d = some (.frz o (.dK kvs)) ∧ i < kvs.length, fun i H x H' => H' = H ∧ ∃ k v, kvs[i]? = some (k, v) ∧ x = kV k, fun i H => H d = some (.frz o (.dK kvs)) ∧ kvs.length ≤ i⟩
theorem dict_ep {o : Obj} {es es' : Array DictEntry} {ep ep' : Nat} (h : o.data = .dict es ep) (h' : o.data = .dict es' ep') : es' = es ∧ ep' = ep := by
  rw [h] at h'
  cases h'
  exact ⟨rfl, rfl⟩
section
variable {P : Program} {w : World} {K : PySem.W.Frag} {tg : Expr} {d : Addr} {o : Obj} {es : Array DictEntry} {ep : Nat}
theorem turn_keys {kvs : List (Key × V)} (it : Addr) (hod : o.data = .dict es ep) : Turn P w K tg (Itk d o kvs) [it] it (fun i h => h.IsKeyIter it d i kvs.length ep) where
  mem := by simp
  obj := fun i h st b hb => by
    have e : b = it := by simpa using hb
    subst e
    obtain ⟨oi, e, c, dd⟩ := st
    exact ⟨oi, e, fun v z => by rw [dd] at z; cases z⟩
  keep := fun i h h' st k => st.at fun oi e => k it (by simp) oi e
  item := by
    intro X hP hw hK hc i pins s σ H E I hf st hg
    subst hP hw hK
    obtain ⟨hd, hi⟩ := hg
    obtain ⟨f0, f1, f2, f3, f4, f5⟩ := hf it (by simp)
    obtain ⟨hs, hgd, hx, es', ep', vs, hdt, hsz, kv, hm⟩ := I.frzK hd
    obtain ⟨rfl, rfl⟩ := dict_ep hod hdt
    obtain ⟨⟨k, v⟩, hkv⟩ : ∃ p, kvs[i]? = some p := ⟨kvs[i], List.getElem?_eq_getElem hi⟩
    obtain ⟨u, hu, ru⟩ := kv_get kv hkv
    have hl : kvs.length = vs.length := Paired.length kv
    rw [hl] at st
    refine wpAny_pyNext_dict_item st hm hu fun key h' hkey st' sb => ?_
    have I1 : Inv X pins σ H { s with heap := h' } := I.turned (t' := s.toks) (fun b ob hb e => (sb.2 b hb).trans e) f0 f1 f3 f4 f5
    obtain ⟨oi, e, c, dd⟩ := id st'
    refine ⟨key, rfl, go_of (s := { s with heap := h' }) e c dd (by decide) ⟨kV k, H, I1, relV_key (show keyIs k key = true from hkey), ⟨rfl, k, v, hkv, rfl⟩, ?_, fun b hb => (hf b hb).1⟩⟩
    show h'.IsKeyIter it d (i + 1) kvs.length _
    rw [hl]
    exact st'
  done := by
    intro X hP hw hK hc i pins s σ H E I hf st hg
    subst hP hw hK
    obtain ⟨hd, hi⟩ := hg
    obtain ⟨f0, f1, f2, f3, f4, f5⟩ := hf it (by simp)
    obtain ⟨hs, hgd, hx, es', ep', vs, hdt, hsz, kv, hm⟩ := I.frzK hd
    obtain ⟨rfl, rfl⟩ := dict_ep hod hdt
    exact next_key_end (I.ok.hd hc) st hgd hdt hsz hi fun h' eb => ⟨rfl, I.turned (t' := s.toks) (fun b ob hb e => eb b ob hb e) f0 f1 f3 f4 f5⟩
  self := fun A i s Q E st h => wpAny_pyIter_keyiter st h
end

/-! ### for k in d, d.keys(), d.values(), d.items() -/
section
variable {X : Cx} {tg e : Expr} {td : TE} {apos cpos : Pos}
end

/-! ### enumerate(list) -/
/-! ### zip(list, list) -/
theorem boot_zip5 : bootBuiltins "zip" = some (.type "zip") := by decide +kernel
/-- the lists at a and b as they stand at each turn, the items in new pairs -/
def Itz (K : PySem.W.Frag) (a b : Addr) : It :=
  ⟨fun i H => ∃ (xs ys : List V) (x y : V), SqL K H a xs ∧ SqL K H b ys ∧ xs[i]? = some x ∧ ys[i]? = some y,
    fun i H v H' => ∃ T x y, v = .ref T ∧ H T = none ∧ H' = upd H T (.tup [x, y]) ∧ (∀ xs, SqL K H a xs → xs[i]? = some x) ∧ ∀ ys, SqL K H b ys → ys[i]? = some y,
    fun i H => ∃ xs ys : List V, SqL K H a xs ∧ SqL K H b ys ∧ (xs.length ≤ i ∨ ys.length ≤ i)⟩
theorem turn_zip {P : Program} {w : World} {K : PySem.W.Frag} {elts : List Expr} {kk : Nat} {tpos : Pos} {a b z TI TO i1 i2 : Addr} (D : ZipApart z TI TO i1 i2 a b) :
    Turn P w K (.Tuple elts kk tpos) (Itz K a b) [z, TI, TO, i1, i2] z (fun i h => IsZip h z TI TO .none ∧ IsPair h TI (.ref i1) (.ref i2) ∧ (∃ x y, IsPair h TO x y) ∧ h.IsListIter i1 a i ∧ h.IsListIter i2 b i) where
  mem := by simp
  obj := fun i h st c hc => by
    obtain ⟨hz, hTI, ⟨x, y, hTO⟩, ⟨o1, e1, _, d1⟩, ⟨o2, e2, _, d2⟩⟩ := st
    have e' : c = z ∨ c = TI ∨ c = TO ∨ c = i1 ∨ c = i2 := by simpa using hc
    rcases e' with q | q | q | q | q
    · rw [q]; exact ⟨_, hz, fun v q => nomatch q⟩
    · rw [q]; exact ⟨_, hTI, fun v q => nomatch q⟩
    · rw [q]; exact ⟨_, hTO, fun v q => nomatch q⟩
    · rw [q]; exact ⟨o1, e1, fun v q => by rw [d1] at q; cases q⟩
    · rw [q]; exact ⟨o2, e2, fun v q => by rw [d2] at q; cases q⟩
  keep := fun i h h' st k => by
    obtain ⟨hz, hTI, ⟨x, y, hTO⟩, h1, h2⟩ := st
    exact ⟨k z (by simp) _ hz, k TI (by simp) _ hTI, ⟨x, y, k TO (by simp) _ hTO⟩, h1.at fun o q => k i1 (by simp) o q, h2.at fun o q => k i2 (by simp) o q⟩
  item := by
    intro X hP hw hK hc i pins s σ H E I hf st hg
    subst hP hw hK
    obtain ⟨hz, hTI, ⟨x0, y0, hTO⟩, h1, h2⟩ := st
    obtain ⟨xs, ys, x, y, hqx, hqy, hx, hy⟩ := hg
    obtain ⟨its, rv, p, _⟩ := I.list hqx
    obtain ⟨its2, rv2, p2, _⟩ := I.list hqy
    obtain ⟨u, hu, ru⟩ := rv.get hx
    obtain ⟨u2, hu2, ru2⟩ := rv2.get hy
    have hzl : z < s.heap.objs.size := Heap.lt_size hz
    refine wpAny_pyNext_zip_item D hz hTI hTO h1 h2 p.isList p2.isList (x := u) (y := u2) (by simpa using hu) (by simpa using hu2) fun h' z' TO' h1' h2' hT hsz hk => ?_
    refine ⟨_, rfl, wpAny_letOwnedTupleGo_zip (s := { s with heap := h' }) z' fun h'' z'' sb => ?_⟩
    have hT2 : h''.get? s.heap.objs.size = some { cls := .type "tuple", data := .seq #[u, u2] } := (sb.2 _ (Nat.ne_of_gt hzl)).trans hT
    have new : ObjOk X.prog X.w (upd H s.heap.objs.size (.tup [x, y])) h'' s.heap.objs.size (.tup [x, y]) :=
      ⟨by show 2 ≤ sizeLine; decide, [u, u2], .cons ru (.cons ru2 .nil), ⟨_, hT2, rfl, _, rfl⟩⟩
    have I1 : Inv X pins σ (upd H s.heap.objs.size (.tup [x, y])) { s with heap := h'' } :=
      I.turnedNew (t' := s.toks) (ch := [z, TI, TO, i1, i2]) (fun c o hb q => (sb.2 c (fun q' => hb (by simp [q']))).trans (hk c o (fun q' => hb (by simp [q'])) (fun q' => hb (by simp [q'])) (fun q' => hb (by simp [q'])) (fun q' => hb (by simp [q'])) q)) hf (Nat.le_refl _) new
    refine ⟨.ref s.heap.objs.size, _, I1, rfl, ⟨_, x, y, rfl, I.hok.fresh (Nat.le_refl _), rfl, fun l hl => by rw [I.list_inj hl hqx]; exact hx, fun l hl => by rw [I.list_inj hl hqy]; exact hy⟩, ⟨z'', ?_, ⟨u, u2, ?_⟩, ?_, ?_⟩, fun c hcm => ?_⟩
    · exact (sb.2 _ D.TIz).trans (hk _ _ D.TIz D.TITO D.TIi1 D.TIi2 hTI)
    · exact (sb.2 _ D.TOz).trans TO'
    · exact h1'.at fun o q => (sb.2 _ D.i1z).trans q
    · exact h2'.at fun o q => (sb.2 _ D.i2z).trans q
    · have hlt : c < s.heap.objs.size := by
        have e' : c = z ∨ c = TI ∨ c = TO ∨ c = i1 ∨ c = i2 := by simpa using hcm
        rcases e' with q | q | q | q | q
        · rw [q]; exact hzl
        · rw [q]; exact Heap.lt_size hTI
        · rw [q]; exact Heap.lt_size hTO
        · rw [q]; obtain ⟨_, e1, _⟩ := h1; exact Heap.lt_size e1
        · rw [q]; obtain ⟨_, e2, _⟩ := h2; exact Heap.lt_size e2
      rw [upd_ne (Nat.ne_of_lt hlt)]
      exact (hf c hcm).1
  done := by
    intro X hP hw hK hc i pins s σ H E I hf st hg
    subst hP hw hK
    obtain ⟨hz, hTI, ⟨x0, y0, hTO⟩, h1, h2⟩ := st
    obtain ⟨xs, ys, hqx, hqy, hend⟩ := hg
    obtain ⟨its, rv, p, _⟩ := I.list hqx
    obtain ⟨its2, rv2, p2, _⟩ := I.list hqy
    have l1 := rv.length
    have l2 := rv2.length
    have he : its.toArray[i]? = none ∨ its2.toArray[i]? = none := by
      rcases hend with q | q
      · exact .inl (by simp; omega)
      · exact .inr (by simp; omega)
    exact wpAny_pyNext_zip_end (I.ok.hd hc) D hz hTI hTO h1 h2 p.isList p2.isList he fun h' hk => ⟨rfl, I.turnedL (t' := s.toks) (ch := [z, TI, TO, i1, i2]) (fun c o hb q =>
      hk c o (fun q' => hb (by simp [q'])) (fun q' => hb (by simp [q'])) (fun q' => hb (by simp [q'])) (fun q' => hb (by simp [q'])) q) hf⟩
  self := fun A i s Q E st h => wpAny_pyIter_zip st.1 h
def iZip (K : PySem.W.Frag) (ta : TA) : TI := fun σ H R => ta σ H fun vs H1 => ∃ a b xs ys, vs = [.ref a, .ref b] ∧ SqL K H1 a xs ∧ SqL K H1 b ys ∧ R (Itz K a b) H1
theorem pi_zip {X : Cx} {e e2 : Expr} {ta : TA} {p pos tpos : Pos} {elts : List Expr} {kk : Nat} (hg : Gl X "zip") (hm : X.mg "zip" = none) (ha : PA X [e, e2] ta)
    (hs : starEach [e, e2] X.env = (false, eval e X.env) :: starEach [e2] X.env := by rfl) (hpl : (backTo pos (starEach [e2] X.env)).any (·.1) = false := by rfl) :
    PI X (.Tuple elts kk tpos) (.Call (.Name "zip" p) [e, e2] [] pos) (iZip X.K ta) := by
  intro pins s σ H R I h
  refine Call_ (ld_blt I hg hm boot_zip5 (PyProof.Rows.callWith_type1 (thn (ha pos pins s σ H _ I h) fun us s1 ⟨vs, H1, I1, r1, q1⟩ => ?_) hs hpl))
  obtain ⟨a, b, xs, ys, ex, hqx, hqy, q⟩ := q1
  subst ex
  cases r1 with
  | cons r rr =>
    cases rr with
    | cons r' rr =>
      cases rr
      cases r
      cases r'
      obtain ⟨its, rv, p1, _⟩ := I1.list hqx
      obtain ⟨its2, rv2, p2, _⟩ := I1.list hqy
      have la : a < s1.heap.objs.size := p1.lt
      have lb : b < s1.heap.objs.size := p2.lt
      refine call_zip_2 p1.isList p2.isList fun h' hz hTI hTO h1 h2 hsz hk => wpAny_pyIter_zip hz ?_
      have I2 : Inv X pins σ H1 { s1 with heap := h' } := I1.kept (t' := s1.toks) hk
      refine ⟨s1.heap.objs.size + 4, [s1.heap.objs.size + 4, s1.heap.objs.size + 2, s1.heap.objs.size + 3, s1.heap.objs.size, s1.heap.objs.size + 1], _, _, H1, rfl, I2, turn_zip (PySem.W.ktu_apart s1.heap.objs.size a b la lb), ⟨hz, hTI, ⟨_, _, hTO⟩, h1, h2⟩, fun c hcm => ?_, q⟩
      have e' : c = s1.heap.objs.size + 4 ∨ c = s1.heap.objs.size + 2 ∨ c = s1.heap.objs.size + 3 ∨ c = s1.heap.objs.size ∨ c = s1.heap.objs.size + 1 := by simpa using hcm
      have hle : s1.heap.objs.size ≤ c := by
        rcases e' with z | z | z | z | z
        · rw [z]; exact Nat.le_add_right _ _
        · rw [z]; exact Nat.le_add_right _ _
        · rw [z]; exact Nat.le_add_right _ _
        · rw [z]; exact Nat.le_refl _
        · rw [z]; exact Nat.le_add_right _ _
      exact I1.fpOk hle (I1.hok.fresh hle)
end L2

section 
namespace Bits
open PySem PyProof.Rows

theorem natCast_mul_pow (m k : Nat) : (m : Int) * 2 ^ k = ((m * 2 ^ k : Nat) : Int) := by
  rw [two_pow_cast]
  first
    | exact (Int.natCast_mul _ _).symm
    | simp

theorem nat_xor_add_and (m : Nat) : ∀ n : Nat, (m ^^^ n) + 2 * (m &&& n) = m + n := by
  induction m using Nat.strongRecOn with
  | _ m ih =>
    intro n
    by_cases h0 : m = 0
    · subst h0
      simp
    · have ih' := ih (m / 2) (by omega) (n / 2)
      rw [← Nat.xor_div_two, ← Nat.and_div_two] at ih'
      have o1 := @Nat.xor_mod_two_eq_one m n
      have a1 := @Nat.and_mod_two_eq_one m n
      omega

theorem bitXor_pp {x y : Int} (hx : 0 ≤ x) (hy : 0 ≤ y) : Builtin.bitXor x y = ((x.toNat ^^^ y.toNat : Nat) : Int) := by
  have e := nat_xor_add_and x.toNat y.toNat
  rw [bitXor_and, bitAnd_pp hx hy]
  omega
theorem bitOr_pp {x y : Int} (hx : 0 ≤ x) (hy : 0 ≤ y) : Builtin.bitOr x y = ((x.toNat ||| y.toNat : Nat) : Int) := by
  have e := nat_or_add_and x.toNat y.toNat
  rw [bitOr_and, bitAnd_pp hx hy]
  omega
end Bits
end 

section 
namespace TL
open PySem PySem.Builtin PySem.Builtin.Str PySem.StrLaws

abbrev tl (x : Str) : List Nat := x.cps.toList
/-! ### the list functions -/
/-- S stands at the head of l -/
def pre (S l : List Nat) : Bool := l.take S.length == S
/-- l cut at each S from the left; k signs are still to be passed over -/
def spl (S : List Nat) : Nat → List Nat → List Nat → List (List Nat)
  | _, acc, [] => [acc]
  | 0, acc, c :: r => if pre S (c :: r) = true then acc :: spl S (S.length - 1) [] r else spl S 0 (acc ++ [c]) r
  | k + 1, acc, _ :: r => spl S k acc r
/-- what stands before the first S, and behind it -/
def par (S : List Nat) : List Nat → List Nat → Option (List Nat × List Nat)
  | _, [] => none
  | acc, c :: r => if pre S (c :: r) = true then some (acc, (c :: r).drop S.length) else par S (acc ++ [c]) r

/-! ### the model's split and partition are these -/
/-! ### computing spl and par -/
/-! ### digits -/
/-! ### words: x.split() -/
end TL
end 

namespace L2
open PySem PySem.Spec PyProof.Rows

section
variable {X : Cx} {pins : List (Addr × Obj)} {σ : St} {H : Hp} {s : Shared} {Q : VK}
end

section
variable {X : Cx}

/-! ### of a text alone -/
/-! ### of a text and a text -/
end

section
variable {X : Cx} {o e : Expr} {to te : TE}
end
end L2

namespace L2
open PySem PySem.Spec PyProof.Rows

section
variable {X : Cx}
end

/-! ### slices of a text -/
theorem IsPart.raw {v : Value} {o : Option Int} (p : IsPart v o) : ∃ l : Option (Int × Tok), v = partValue l ∧ l.map (·.1) = o := by
  cases p with
  | none => exact ⟨none, rfl, rfl⟩
  | int i t => exact ⟨some (i, t), rfl, rfl⟩

end L2

section
set_option Elab.async false
set_option linter.all false
set_option maxRecDepth 100000
set_option maxHeartbeats 2000000
namespace L2
open PySem PySem.Spec PyProof.Rows
open PySem.W (WData Codec OpenSpec Well WellAll ReadsW ReadsAllW)
/-! ### an answer as data -/
mutual
/-- x stands for the datum d, lists and tuples all the way -/
inductive Dw (K : PySem.W.Frag) (H : Hp) : V → WData → Prop
  | non : Dw K H .non .none
  | bl (b : Bool) : Dw K H (.bl b) (.bool b)
  | int (i : Int) : Dw K H (.int i) (.int i)
  | str (x : Str) : Dw K H (.str x) (.str x)
  | byt (b : Array UInt8) : Dw K H (.byt b) (.bytes b.toList)
  | lst {a : Addr} {xs : List V} {ds : List WData} : SqL K H a xs → DwAll K H xs ds → Dw K H (.ref a) (.list ds)
  | tup {a : Addr} {xs : List V} {ds : List WData} : SqT K H a xs → DwAll K H xs ds → Dw K H (.ref a) (.tuple ds)
inductive DwAll (K : PySem.W.Frag) (H : Hp) : List V → List WData → Prop
  | nil : DwAll K H [] []
  | cons {v : V} {vs : List V} {d : WData} {ds : List WData} : Dw K H v d → DwAll K H vs ds → DwAll K H (v :: vs) (d :: ds)
end
theorem dw_ints {K : PySem.W.Frag} {H : Hp} : ∀ ns : List Int, DwAll K H (ns.map V.int) (ns.map WData.int)
  | [] => .nil
  | n :: r => .cons (.int n) (dw_ints r)
theorem ints_dw {K : PySem.W.Frag} {H : Hp} : ∀ (ns : List Int) (xs : List V), DwAll K H xs (ns.map WData.int) → xs = ns.map V.int
  | [], xs, h => by
    cases h
    rfl
  | n :: r, xs, h => by
    cases h with
    | cons h1 h2 =>
      cases h1
      rw [ints_dw r _ h2] <;> rfl
section
variable {P : Program} {w : World} {K : PySem.W.Frag} {H : Hp} {h : Heap} {R : PySem.W.WRecords} {cl : Str → Option Addr}
theorem sqL_at {a : Addr} {xs : List V} (hok : HOk P w H h) (KX : K.In h) (q : SqL K H a xs) : ∃ (its : List Value) (o : Obj) (n : Nat), Vals xs its ∧ h.get? a = some o ∧ o.cls = .type "list" ∧ o.data = .seq its.toArray n := by
  rcases q with q | ⟨o, its, n, e, hc, _, hd, _, hv⟩
  · obtain ⟨_, its, n, hv, e⟩ := (show ObjOk P w H h a (.lst xs) from q.ok hok)
    exact ⟨its, _, n, hv, e, rfl, rfl⟩
  · exact ⟨its.toList, o, n, hv, KX _ _ e, hc, by simp [hd]⟩
theorem sqT_at {a : Addr} {xs : List V} (hok : HOk P w H h) (KX : K.In h) (q : SqT K H a xs) : ∃ (its : List Value) (o : Obj) (n : Nat), Vals xs its ∧ h.get? a = some o ∧ o.cls = .type "tuple" ∧ o.data = .seq its.toArray n := by
  rcases q with q | ⟨o, its, n, e, hc, hd, _, hv⟩
  · obtain ⟨_, its, hv, o, e, hc, n, hd⟩ := (show ObjOk P w H h a (.tup xs) from q.ok hok)
    exact ⟨its, o, n, hv, e, hc, hd⟩
  · exact ⟨its.toList, o, n, hv, KX _ _ e, hc, by simp [hd]⟩
mutual
theorem Dw.reads (hok : HOk P w H h) (KX : K.In h) : ∀ (d : WData) (v : V) (u : Value), Dw K H v d → RelV v u → ∃ as, ReadsW R cl h u d as
  | .none, _, _, x, r => by
    cases x
    cases r
    exact ⟨_, ReadsW.none⟩
  | .bool b, _, _, x, r => by
    cases x
    cases r
    exact ⟨_, ReadsW.bool b⟩
  | .int i, _, _, x, r => by
    cases x
    obtain ⟨t, rfl⟩ := r
    exact ⟨_, ReadsW.int i t⟩
  | .str s, _, _, x, r => by
    cases x
    obtain ⟨t, rfl⟩ := r
    exact ⟨_, ReadsW.str s t⟩
  | .bytes b, _, _, x, r => by
    cases x
    obtain ⟨t, rfl⟩ := r
    exact ⟨_, ReadsW.bytes _ t⟩
  | .list ds, _, _, x, r => by
    cases x with
    | lst hs ha =>
      cases r
      obtain ⟨its, o, n, rv, ho, hc, hd⟩ := sqL_at hok KX hs
      obtain ⟨as, hr⟩ := Dw.readsAll hok KX ds _ its ha rv
      exact ⟨_, ReadsW.list ho hc hd hr⟩
  | .tuple ds, _, _, x, r => by
    cases x with
    | tup hs ha =>
      cases r
      obtain ⟨its, o, n, rv, ho, hc, hd⟩ := sqT_at hok KX hs
      obtain ⟨as, hr⟩ := Dw.readsAll hok KX ds _ its ha rv
      exact ⟨_, ReadsW.tuple ho hc hd hr⟩
  | .float _, _, _, x, _ => by cases x
  | .dict _, _, _, x, _ => by cases x
  | .bytearray _, _, _, x, _ => by cases x
  | .set _, _, _, x, _ => by cases x
  | .frozenset _, _, _, x, _ => by cases x
  | .obj _ _, _, _, x, _ => by cases x
theorem Dw.readsAll (hok : HOk P w H h) (KX : K.In h) : ∀ (ds : List WData) (vs : List V) (us : List Value), DwAll K H vs ds → Vals vs us → ∃ as, ReadsAllW R cl h us ds as
  | [], _, _, x, r => by
    cases x
    cases r
    exact ⟨_, ReadsAllW.nil⟩
  | d :: ds, _, _, x, r => by
    cases x with
    | cons h1 h2 =>
      cases r with
      | cons r1 r2 =>
        obtain ⟨as, q1⟩ := Dw.reads hok KX d _ _ h1 r1
        obtain ⟨bs, q2⟩ := Dw.readsAll hok KX ds _ _ h2 r2
        exact ⟨_, ReadsAllW.cons q1 q2⟩
end
end
/-! ### the arguments -/
mutual
/-- data that a codec tells -/
def plW : WData → Bool
  | .none => true
  | .bool _ => true
  | .int _ => true
  | .str _ => true
  | .bytes _ => true
  | .list xs => plWs xs
  | .tuple xs => plWs xs
  | _ => false
def plWs : List WData → Bool
  | [] => true
  | x :: r => plW x && plWs r
end
theorem plWs_map {α : Type} {f : α → WData} (h : ∀ a, plW (f a) = true) : ∀ l : List α, plWs (l.map f) = true
  | [] => rfl
  | x :: r => by
    show (plW (f x) && plWs (r.map f)) = true
    rw [h x, plWs_map h r] <;> rfl
theorem pl_enc : ∀ (c : Codec) (a : c.denote), plW (c.enc a) = true
  | .unit, _ => rfl
  | .bool, _ => rfl
  | .int _ _, _ => rfl
  | .nat _ _, _ => rfl
  | .u8, _ => rfl
  | .bytes _ _, _ => rfl
  | .text _ _ _ _, _ => rfl
  | .list _ _ c, a => plWs_map (fun x => pl_enc c x) a
  | .pair c d, a => by
    show (plW (c.enc a.1) && (plW (d.enc a.2) && true)) = true
    rw [pl_enc c a.1, pl_enc d a.2] <;> rfl
  | .triple c d e, a => by
    show (plW (c.enc a.1) && (plW (d.enc a.2.1) && (plW (e.enc a.2.2) && true))) = true
    rw [pl_enc c a.1, pl_enc d a.2.1, pl_enc e a.2.2] <;> rfl
  | .option c, none => rfl
  | .option c, some x => pl_enc c x
theorem pl_encAll : ∀ (cs : List Codec) (a : Codec.denoteAll cs), plWs (Codec.encAll cs a) = true
  | [], _ => rfl
  | c :: cs, a => by
    show (plW (c.enc a.1) && plWs (Codec.encAll cs a.2)) = true
    rw [pl_enc c a.1, pl_encAll cs a.2] <;> rfl
theorem weight_mem : ∀ {xs : List WData} {d : WData}, d ∈ xs → d.weight ≤ WData.weightAll xs
  | [], d, h => absurd h (by simp)
  | x :: r, d, h => by
    show d.weight ≤ x.weight + 1 + WData.weightAll r
    rcases List.mem_cons.mp h with e | m
    · rw [e]
      omega
    · have z := weight_mem m
      omega
def toV : Value → V
  | .none => .non
  | .bool b => .bl b
  | .int i _ => .int i
  | .str x _ => .str x
  | .bytes b _ => .byt b
  | .ref a => .ref a
  | _ => .non
/-- a value of the arguments, its objects among A -/
def OkU (A : List Addr) : Value → Prop
  | .none => True
  | .bool _ => True
  | .int _ _ => True
  | .str _ _ => True
  | .bytes _ _ => True
  | .ref a => a ∈ A
  | _ => False
theorem OkU.mono {A B : List Addr} (h : ∀ a ∈ A, a ∈ B) : ∀ {u : Value}, OkU A u → OkU B u := fun {u} x => by
  cases u with
  | ref a => exact h a x
  | none => trivial
  | bool b => trivial
  | int i t => trivial
  | str s t => trivial
  | bytes b t => trivial
  | _ => exact False.elim x
theorem relV_toV {A : List Addr} {u : Value} (x : OkU A u) : RelV (toV u) u := by
  cases u with
  | ref a => rfl
  | none => rfl
  | bool b => rfl
  | int i t => exact ⟨t, rfl⟩
  | str s t => exact ⟨t, rfl⟩
  | bytes b t => exact ⟨t, rfl⟩
  | _ => exact False.elim x
theorem vals_toV {A : List Addr} : ∀ {vs : List Value}, (∀ u ∈ vs, OkU A u) → Vals (vs.map toV) vs
  | [], _ => .nil
  | u :: r, h => .cons (relV_toV (h u (List.mem_cons_self ..))) (vals_toV fun x hx => h x (List.mem_cons_of_mem _ hx))
/-- an object of the arguments -/
def ArgOb (h : Heap) (A : List Addr) (a : Addr) : Prop := ∃ vs : List Value, vs.length ≤ sizeLine ∧ (∀ u ∈ vs, OkU A u) ∧
  (h.get? a = some { cls := .type "list", data := .seq vs.toArray } ∨ h.get? a = some { cls := .type "tuple", data := .seq vs.toArray })
theorem ArgOb.mono {h : Heap} {A B : List Addr} {a : Addr} (k : ∀ a ∈ A, a ∈ B) (x : ArgOb h A a) : ArgOb h B a := by
  obtain ⟨vs, h1, h2, h3⟩ := x
  exact ⟨vs, h1, fun u hu => (h2 u hu).mono k, h3⟩
theorem wellAll_len {P : Params} {h : Heap} : ∀ {vs : List Value} {ds : List WData}, WellAll P h vs ds → vs.length = ds.length
  | _, _, .nil => rfl
  | _, _, .cons _ b => by
    show _ + 1 = _ + 1
    rw [wellAll_len b]
theorem well_list {P : Params} {h : Heap} {v : Value} {ds : List WData} (x : Well P h v (.list ds)) : ∃ (a : Addr) (vs : List Value), v = .ref a ∧ h.get? a = some { cls := .type "list", data := .seq vs.toArray } ∧ WellAll P h vs ds := by
  cases x with
  | list ho hall => exact ⟨_, _, rfl, ho, hall⟩
theorem well_tuple {P : Params} {h : Heap} {v : Value} {ds : List WData} (x : Well P h v (.tuple ds)) : ∃ (a : Addr) (vs : List Value), v = .ref a ∧ h.get? a = some { cls := .type "tuple", data := .seq vs.toArray } ∧ WellAll P h vs ds := by
  cases x with
  | tuple ho hall => exact ⟨_, _, rfl, ho, hall⟩
theorem well_cons {P : Params} {h : Heap} {us : List Value} {d : WData} {ds : List WData} (x : WellAll P h us (d :: ds)) : ∃ (v : Value) (vs : List Value), us = v :: vs ∧ Well P h v d ∧ WellAll P h vs ds := by
  cases x with
  | cons a b => exact ⟨_, _, rfl, a, b⟩
theorem line_of {n : Nat} (h : n ≤ 1048576) : n ≤ sizeLine := Nat.le_trans h (by decide)
section
variable {P : Params} {h : Heap}
mutual
theorem area_one : ∀ (d : WData) (v : Value), Well P h v d → plW d = true → d.weight ≤ 1048576 → ∃ A : List Addr, OkU A v ∧ ∀ a ∈ A, ArgOb h A a
  | .none, _, x, _, _ => by
    cases x
    exact ⟨[], trivial, fun a m => absurd m (by simp)⟩
  | .bool b, _, x, _, _ => by
    cases x
    exact ⟨[], trivial, fun a m => absurd m (by simp)⟩
  | .int i, _, x, _, _ => by
    cases x
    exact ⟨[], trivial, fun a m => absurd m (by simp)⟩
  | .str s, _, x, _, _ => by
    cases x
    exact ⟨[], trivial, fun a m => absurd m (by simp)⟩
  | .bytes b, _, x, _, _ => by
    cases x
    exact ⟨[], trivial, fun a m => absurd m (by simp)⟩
  | .list ds, _, x, p, z => by
    obtain ⟨a, vs, rfl, ho, hall⟩ := well_list x
    have z2 : WData.weightAll ds ≤ 1048576 := z
    obtain ⟨A, h1, h2⟩ := area_all ds _ hall p fun d hd => Nat.le_trans (weight_mem hd) z2
    have k : ∀ b ∈ A, b ∈ a :: A := fun b hb => List.mem_cons_of_mem _ hb
    refine ⟨a :: A, List.mem_cons_self .., fun b hb => ?_⟩
    rcases List.mem_cons.mp hb with e | m
    · rw [e]
      exact ⟨vs, line_of (by rw [wellAll_len hall]; exact Nat.le_trans (PySem.W.length_le_weightAllW ds) z2), fun u hu => (h1 u hu).mono k, .inl ho⟩
    · exact (h2 b m).mono k
  | .tuple ds, _, x, p, z => by
    obtain ⟨a, vs, rfl, ho, hall⟩ := well_tuple x
    have z2 : WData.weightAll ds ≤ 1048576 := z
    obtain ⟨A, h1, h2⟩ := area_all ds _ hall p fun d hd => Nat.le_trans (weight_mem hd) z2
    have k : ∀ b ∈ A, b ∈ a :: A := fun b hb => List.mem_cons_of_mem _ hb
    refine ⟨a :: A, List.mem_cons_self .., fun b hb => ?_⟩
    rcases List.mem_cons.mp hb with e | m
    · rw [e]
      exact ⟨vs, line_of (by rw [wellAll_len hall]; exact Nat.le_trans (PySem.W.length_le_weightAllW ds) z2), fun u hu => (h1 u hu).mono k, .inr ho⟩
    · exact (h2 b m).mono k
  | .float _, _, _, p, _ => Bool.noConfusion (show false = true from p)
  | .dict _, _, _, p, _ => Bool.noConfusion (show false = true from p)
  | .bytearray _, _, _, p, _ => Bool.noConfusion (show false = true from p)
  | .set _, _, _, p, _ => Bool.noConfusion (show false = true from p)
  | .frozenset _, _, _, p, _ => Bool.noConfusion (show false = true from p)
  | .obj _ _, _, _, p, _ => Bool.noConfusion (show false = true from p)
theorem area_all : ∀ (ds : List WData) (vs : List Value), WellAll P h vs ds → plWs ds = true → (∀ d ∈ ds, d.weight ≤ 1048576) → ∃ A : List Addr, (∀ u ∈ vs, OkU A u) ∧ ∀ a ∈ A, ArgOb h A a
  | [], _, x, _, _ => by
    cases x
    exact ⟨[], fun u m => absurd m (by simp), fun a m => absurd m (by simp)⟩
  | d :: ds, _, x, p, z => by
    obtain ⟨v, vs, rfl, x1, x2⟩ := well_cons x
    have q : plW d = true ∧ plWs ds = true := Bool.and_eq_true_iff.mp p
    obtain ⟨A, a1, a2⟩ := area_one d v x1 q.1 (z d (List.mem_cons_self ..))
    obtain ⟨B, b1, b2⟩ := area_all ds vs x2 q.2 fun e he => z e (List.mem_cons_of_mem _ he)
    have kA : ∀ b ∈ A, b ∈ A ++ B := fun b hb => List.mem_append.mpr (.inl hb)
    have kB : ∀ b ∈ B, b ∈ A ++ B := fun b hb => List.mem_append.mpr (.inr hb)
    refine ⟨A ++ B, fun u hu => ?_, fun b hb => ?_⟩
    · rcases List.mem_cons.mp hu with e | m
      · rw [e]
        exact a1.mono kA
      · exact (b1 u m).mono kB
    · rcases List.mem_append.mp hb with m | m
      · exact (a2 b m).mono kA
      · exact (b2 b m).mono kB
end
end
/-- what is tracked of an argument's object -/
def hoOf (o : Obj) : Option HO := match o.data with
  | .seq vs _ => if (o.cls == Value.type "list") = true then some (.frz o (.lst (vs.toList.map toV))) else some (.frz o (.tup (vs.toList.map toV)))
  | _ => none
def argH (K : PySem.W.Frag) (h : Heap) (A : List Addr) : Hp := fun b => if b ∈ A then (if (K.lookup b).isNone = true then (h.get? b).bind hoOf else none) else none
/-- nothing is tracked but what is known to the object -/
def OnlyF (H : Hp) : Prop := ∀ b, H b = none ∨ ∃ o u, H b = some (.frz o u)
theorem hoOf_lst (vs : List Value) : hoOf { cls := .type "list", data := .seq vs.toArray } = some (.frz { cls := .type "list", data := .seq vs.toArray } (.lst (vs.map toV))) := by
  show (if (Value.type "list" == Value.type "list") = true then some (HO.frz { cls := .type "list", data := .seq vs.toArray } (.lst (vs.toArray.toList.map toV))) else some (HO.frz { cls := .type "list", data := .seq vs.toArray } (.tup (vs.toArray.toList.map toV)))) = _
  rw [if_pos (beq_self_eq_true _)]
theorem hoOf_tup (vs : List Value) : hoOf { cls := .type "tuple", data := .seq vs.toArray } = some (.frz { cls := .type "tuple", data := .seq vs.toArray } (.tup (vs.map toV))) := by
  show (if (Value.type "tuple" == Value.type "list") = true then some (HO.frz { cls := .type "tuple", data := .seq vs.toArray } (.lst (vs.toArray.toList.map toV))) else some (HO.frz { cls := .type "tuple", data := .seq vs.toArray } (.tup (vs.toArray.toList.map toV)))) = _
  rw [if_neg (by decide)]
section
variable {P : Program} {w : World} {K : PySem.W.Frag} {h : Heap} {A : List Addr}
theorem argH_at {b : Addr} {o : Obj} (hb : b ∈ A) (hk : K.lookup b = none) (e : h.get? b = some o) : argH K h A b = hoOf o := by
  unfold argH
  rw [if_pos hb, hk, if_pos (show (none : Option Obj).isNone = true from rfl), e] <;> rfl
theorem of_argH {b : Addr} {u : HO} (q : argH K h A b = some u) : b ∈ A ∧ K.lookup b = none := by
  unfold argH at q
  by_cases hb : b ∈ A
  · rw [if_pos hb] at q
    cases hk : K.lookup b with
    | none => exact ⟨hb, rfl⟩
    | some o =>
      rw [hk, if_neg (by simp)] at q
      cases q
  · rw [if_neg hb] at q
    cases q
/-- what stands tracked -/
theorem argH_is (ar : ∀ a ∈ A, ArgOb h A a) {b : Addr} {u : HO} (q : argH K h A b = some u) : K.lookup b = none ∧ ∃ vs : List Value, vs.length ≤ sizeLine ∧ (∀ u ∈ vs, OkU A u) ∧
    ((h.get? b = some { cls := .type "list", data := .seq vs.toArray } ∧ u = .frz { cls := .type "list", data := .seq vs.toArray } (.lst (vs.map toV))) ∨
     (h.get? b = some { cls := .type "tuple", data := .seq vs.toArray } ∧ u = .frz { cls := .type "tuple", data := .seq vs.toArray } (.tup (vs.map toV)))) := by
  obtain ⟨hb, hk⟩ := of_argH q
  obtain ⟨vs, h1, h2, h3⟩ := ar b hb
  refine ⟨hk, vs, h1, h2, ?_⟩
  rcases h3 with e | e
  · rw [argH_at hb hk e, hoOf_lst] at q
    exact .inl ⟨e, (Option.some.inj q).symm⟩
  · rw [argH_at hb hk e, hoOf_tup] at q
    exact .inr ⟨e, (Option.some.inj q).symm⟩
theorem argH_only (ar : ∀ a ∈ A, ArgOb h A a) : OnlyF (argH K h A) := fun b => by
  cases q : argH K h A b with
  | none => exact .inl rfl
  | some u =>
    obtain ⟨_, vs, _, _, ⟨_, e⟩ | ⟨_, e⟩⟩ := argH_is ar q
    · exact .inr ⟨_, _, by rw [e]⟩
    · exact .inr ⟨_, _, by rw [e]⟩
theorem argH_ok (ar : ∀ a ∈ A, ArgOb h A a) : HOk P w (argH K h A) h := fun b u q => by
  obtain ⟨_, vs, h1, h2, ⟨e, rfl⟩ | ⟨e, rfl⟩⟩ := argH_is ar q
  · exact ⟨e, by rw [List.length_map]; exact h1, vs, _, vals_toV h2, e⟩
  · exact ⟨e, by rw [List.length_map]; exact h1, vs, vals_toV h2, _, e, rfl, _, rfl⟩
theorem seq_inj {c c' : Value} {vs us : List Value} (e : (some { cls := c, data := .seq vs.toArray } : Option Obj) = some { cls := c', data := .seq us.toArray }) : c = c' ∧ vs = us := by
  have e1 := Option.some.inj e
  have e2 : c = c' := congrArg Obj.cls e1
  have e3 : Data.seq vs.toArray = Data.seq us.toArray := congrArg Obj.data e1
  injection e3 with e4
  refine ⟨e2, ?_⟩
  have e5 := congrArg Array.toList e4
  simpa using e5
/-- a list argument -/
theorem argL (KX : K.In h) (ar : ∀ a ∈ A, ArgOb h A a) {a : Addr} {vs : List Value} (ha : a ∈ A) (e : h.get? a = some { cls := .type "list", data := .seq vs.toArray }) : (∀ u ∈ vs, OkU A u) ∧ SqL K (argH K h A) a (vs.map toV) := by
  obtain ⟨us, h1, h2, h3⟩ := ar a ha
  have hu : us = vs := by
    rcases h3 with q | q
    · rw [e] at q
      exact (seq_inj q).2.symm
    · rw [e] at q
      exact absurd (Value.type.inj (seq_inj q).1) (by decide)
  subst hu
  refine ⟨h2, ?_⟩
  cases hk : K.lookup a with
  | none => exact .inl (.inr ⟨_, by rw [argH_at ha hk e, hoOf_lst]⟩)
  | some o =>
    have e2 := KX a o hk
    rw [e] at e2
    obtain rfl := Option.some.inj e2
    exact .inr ⟨_, us.toArray, _, hk, rfl, rfl, rfl, by rw [List.size_toArray]; exact h1, by simpa using vals_toV h2⟩
theorem argT (KX : K.In h) (ar : ∀ a ∈ A, ArgOb h A a) {a : Addr} {vs : List Value} (ha : a ∈ A) (e : h.get? a = some { cls := .type "tuple", data := .seq vs.toArray }) : (∀ u ∈ vs, OkU A u) ∧ SqT K (argH K h A) a (vs.map toV) := by
  obtain ⟨us, h1, h2, h3⟩ := ar a ha
  have hu : us = vs := by
    rcases h3 with q | q
    · rw [e] at q
      exact absurd (Value.type.inj (seq_inj q).1) (by decide)
    · rw [e] at q
      exact (seq_inj q).2.symm
  subst hu
  refine ⟨h2, ?_⟩
  cases hk : K.lookup a with
  | none => exact .inl (.inr ⟨_, by rw [argH_at ha hk e, hoOf_tup]⟩)
  | some o =>
    have e2 := KX a o hk
    rw [e] at e2
    obtain rfl := Option.some.inj e2
    exact .inr ⟨_, us.toArray, _, hk, rfl, rfl, by rw [List.size_toArray]; exact h1, by simpa using vals_toV h2⟩
mutual
theorem dw_one {Pm : Params} (KX : K.In h) (ar : ∀ a ∈ A, ArgOb h A a) : ∀ (d : WData) (v : Value), Well Pm h v d → plW d = true → OkU A v → Dw K (argH K h A) (toV v) d
  | .none, _, x, _, _ => by
    cases x
    exact .non
  | .bool b, _, x, _, _ => by
    cases x
    exact .bl b
  | .int i, _, x, _, _ => by
    cases x
    exact .int i
  | .str s, _, x, _, _ => by
    cases x
    exact .str s
  | .bytes b, _, x, _, _ => by
    cases x
    have z := Dw.byt (K := K) (H := argH K h A) b.toArray
    exact z
  | .list ds, _, x, p, hu => by
    obtain ⟨a, vs, rfl, ho, hall⟩ := well_list x
    obtain ⟨h2, hs⟩ := argL KX ar hu ho
    exact .lst hs (dw_all KX ar ds _ hall p h2)
  | .tuple ds, _, x, p, hu => by
    obtain ⟨a, vs, rfl, ho, hall⟩ := well_tuple x
    obtain ⟨h2, hs⟩ := argT KX ar hu ho
    exact .tup hs (dw_all KX ar ds _ hall p h2)
  | .float _, _, _, p, _ => Bool.noConfusion (show false = true from p)
  | .dict _, _, _, p, _ => Bool.noConfusion (show false = true from p)
  | .bytearray _, _, _, p, _ => Bool.noConfusion (show false = true from p)
  | .set _, _, _, p, _ => Bool.noConfusion (show false = true from p)
  | .frozenset _, _, _, p, _ => Bool.noConfusion (show false = true from p)
  | .obj _ _, _, _, p, _ => Bool.noConfusion (show false = true from p)
theorem dw_all {Pm : Params} (KX : K.In h) (ar : ∀ a ∈ A, ArgOb h A a) : ∀ (ds : List WData) (vs : List Value), WellAll Pm h vs ds → plWs ds = true → (∀ u ∈ vs, OkU A u) → DwAll K (argH K h A) (vs.map toV) ds
  | [], _, x, _, _ => by
    cases x
    exact .nil
  | d :: ds, _, x, p, hu => by
    obtain ⟨v, vs, rfl, x1, x2⟩ := well_cons x
    have q : plW d = true ∧ plWs ds = true := Bool.and_eq_true_iff.mp p
    exact .cons (dw_one KX ar d v x1 q.1 (hu _ (List.mem_cons_self ..))) (dw_all KX ar ds vs x2 q.2 fun u m => hu u (List.mem_cons_of_mem _ m))
end
end
/-! ### the call -/
theorem spec_call {P : Program} {w : World} {K : PySem.W.Frag} {mg mb : Str → Option Value} {CX : CXT} {k : Nat} {fa : Addr} {fd : FuncData} {ps : List Str} {sp : Sp} {s₁ : Shared} {vals : List Value} {ds : List WData} {R : PySem.W.WRecords} {cl : Str → Option Addr} {d0 : WData}
    (KX : K.In s₁.heap) (hns : s₁.heap.Ns mainGlobals mg) (hb : s₁.heap.Ns builtinsNs mb) (hbb : ∀ x : Str, x ≠ "__name__" → mb x = bootBuiltins x) (hlim : s₁.heap.NoLimit) (hg : s₁.gens = #[])
    (hwl : WellAll w.params s₁.heap vals ds) (hpl : plWs ds = true) (hwt : ∀ d ∈ ds, d.weight ≤ 1048576) (hr : Room k callerA)
    (F : ∀ base : Heap, K.In base → base.Ns mainGlobals mg → FnOk P w K mg base CX k fa fd ps sp) (hbind : ∀ (s : Shared) (us : List Value), us.length = ps.length → BindsTo s fd ⟨us, []⟩ (ps.zip us)) (hlen : ds.length = ps.length)
    (hsp : ∀ (H : Hp) (xs : List V), OnlyF H → DwAll K H xs ds → sp xs H (fun v H' => Dw K H' v d0) fun _ _ _ => False)
    (hCX : ∀ H e s', CX [] H s₁ (fun _ _ _ => False) e s' → False) :
    codeAny (model P w) callerA (.call (.ref fa) ⟨vals, []⟩) (fun r s' => ∃ u as, r = .ok (.ret u) ∧ ReadsW R cl s'.heap u d0 as ∧ OldK s₁.heap s'.heap ∧ s'.os = s₁.os ∧ AllBare s'.gens) s₁ := by
  obtain ⟨A, ho, ar⟩ := area_all ds vals hwl hpl hwt
  have hO : OnlyF (argH K s₁.heap A) := argH_only ar
  have hok : HOk P w (argH K s₁.heap A) s₁.heap := argH_ok ar
  have hS := dw_all KX ar ds vals hwl hpl ho
  have hV := vals_toV ho
  have hK : ∀ b u, argH K s₁.heap A b = some u → K.lookup b = none := fun b u q => (argH_is ar q).1
  have noA : ∀ {b : Addr} {o : Obj} {es : Array DictEntry} {ep : Nat}, s₁.heap.get? b = some o → o.data = .dict es ep → argH K s₁.heap A b = none := fun {b o es ep} e d => by
    cases q : argH K s₁.heap A b with
    | none => rfl
    | some u =>
      obtain ⟨_, vs, _, _, ⟨e2, _⟩ | ⟨e2, _⟩⟩ := argH_is ar q
      · rw [e2] at e
        cases e
        have d' : Data.seq vs.toArray _ = Data.dict es ep := d
        cases d'
      · rw [e2] at e
        cases e
        have d' : Data.seq vs.toArray _ = Data.dict es ep := d
        cases d'
  generalize argH K s₁.heap A = H at hO hok hS hK noA
  have base_of : ∀ {b : Addr} {o : Obj}, s₁.heap.get? b = some o → H b = none → (hidT s₁.heap H).get? b = some o := fun e n => hidT_get e n
  have nsK : ∀ {b : Addr} {m : Str → Option Value}, s₁.heap.Ns b m → (hidT s₁.heap H).Ns b m := fun {b m} ⟨o, es, ep, e, d, r⟩ => ⟨o, es, ep, base_of e (noA e d), d, r⟩
  have nK : ∀ b o, K.lookup b = some o → H b = none := fun b o e => by
    cases q : H b with
    | none => rfl
    | some u =>
      rw [hK b u q] at e
      cases e
  have hKb : K.In (hidT s₁.heap H) := fun b o e => base_of (KX b o e) (nK b o e)
  have hM : Mod K mg (hidT s₁.heap H) := ⟨hKb, nsK hns, ⟨mb, nsK hb, hbb⟩, let ⟨mc, h1, h2⟩ := hlim; ⟨mc, nsK h1, h2⟩⟩
  have e0 : Env0 P w K mg (hidT s₁.heap H) callerA [] s₁ H := ⟨rfl, hM, fun b o e => of_hidT e, Nat.le_of_eq (hidT_size _ _), trivial, fun b hb => absurd (show b ∈ ([] : List Addr) from hb) (by simp), hok, .of_eq hg⟩
  have hl : vals.length = ps.length := by rw [wellAll_len hwl]; exact hlen
  refine codeAny_mono ((F _ hKb (nsK hns)).run callerA [] s₁ H ⟨vals, []⟩ vals (vals.map toV) _ _ hr e0 (hbind s₁ vals hl) hV (hsp H _ hO hS)) fun r s' x => ?_
  cases r with
  | error e => exact (hCX H e s' x).elim
  | ok fl =>
    cases fl with
    | next => exact False.elim x
    | brk => exact False.elim x
    | cont => exact False.elim x
    | ret u =>
      obtain ⟨v, H', os, bare, un, hok', r', q⟩ := x
      have kept : ∀ b o, s₁.heap.get? b = some o → s'.heap.get? b = some o := fun b o e => by
        cases q2 : H b with
        | none => exact un.keep b o e q2 (by intro z; exact absurd (show b ∈ ([] : List Addr) from z) (by simp)) (by simp)
        | some u2 =>
          rcases hO b with z | ⟨ob, u3, z⟩
          · rw [q2] at z
            cases z
          · have z2 := un.frzs b ob _ z
            obtain ⟨e1, _⟩ := hok b _ z
            obtain ⟨e2, _⟩ := hok' b _ z2
            rw [e] at e1
            cases e1
            exact e2
      have KX' : K.In s'.heap := fun b o e => kept b o (KX b o e)
      obtain ⟨as, hrd⟩ := Dw.reads (R := R) (cl := cl) hok' KX' d0 v u q r'
      exact ⟨u, as, rfl, hrd, OldK.of_keep kept, os, bare⟩
/-! ### the row -/
theorem layable_weight {ds : List WData} (h : WData.layableAll ds = true) : ∀ d ∈ ds, d.weight ≤ 1048576 := fun d hd =>
  (PySem.W.layableW_iff.mp (List.all_eq_true.mp h d hd)).2.2
theorem encAll_len : ∀ (cs : List Codec) (a : Codec.denoteAll cs), (Codec.encAll cs a).length = cs.length
  | [], _ => rfl
  | c :: cs, a => by
    show (Codec.encAll cs a.2).length + 1 = cs.length + 1
    rw [encAll_len cs a.2]
/-- the goal that k_headS leaves (case hc), from the promise of the row's def: whatever the arguments that the codecs let and the row asks for, the def gives what stands for enc (f ..) -/
theorem walk_spec {r : OpenSpec} {k : Nat} {q : Program} {loose : List Str} {XP : (Str → Option Value) → Heap → Prop} {YP : World → Heap → Prop} {d : DefRec} {K : Params → PySem.W.Frag} {CX : World → CXT} {ps : List Str} {sp : World → Sp}
    (hwell : r.wellSaid = true) (hdf : d.params.defaults = []) (hlen : r.args.length = ps.length) (hr : Room k callerA)
    (hY : ∀ (w : World) (h : Heap), YP w h → (K w.params).In h)
    (F : ∀ (w : World) (mg : Str → Option Value) (fa : Addr) (h : Heap), YP w h → (K w.params).In h → h.Ns mainGlobals mg → mg d.name = some (.ref fa) →
      ∃ fd : FuncData, (∀ (s : Shared) (us : List Value), us.length = ps.length → BindsTo s fd ⟨us, []⟩ (ps.zip us)) ∧
        ∀ base : Heap, (K w.params).In base → base.Ns mainGlobals mg → FnOk r.prog w (K w.params) mg base (CX w) k fa fd ps (sp w))
    (hsp : ∀ (w : World) (H : Hp) (xs : List V) (a : Codec.denoteAll r.args), OnlyF H → Codec.withinAll r.args a = true → Codec.app r.args r.asked a = true → DwAll (K w.params) H xs (Codec.encAll r.args a) →
      sp w xs H (fun v H' => Dw (K w.params) H' v (r.ret.enc (Codec.app r.args r.f a))) fun _ _ _ => False)
    (hCX : ∀ (w : World) (H : Hp) (s : Shared) (e : Value) (s' : Shared), CX w [] H s (fun _ _ _ => False) e s' → False) :
    PySem.W.WalkOS q loose XP YP r d [] (fun f vs => PySem.call f vs) := by
  intro w s_0 s₁ mg mb G Y fa o pm cd doc dV kV ho hd hcd hD hmg hg args vals as hpre hlay hrd hwl hlo
  obtain ⟨a, e1, e2⟩ := PySem.W.os_pre_some hpre
  obtain ⟨e3, hwi⟩ := Codec.encAll_of_decAll r.args args a e1
  subst e3
  have KX := hY w _ Y
  obtain ⟨fd, hb, hF⟩ := F w mg fa _ Y KX G.T.g hmg
  refine PySem.W.enter_call (codeAny_mono (spec_call (R := []) (cl := classAt s_0.heap) (d0 := r.ret.enc (Codec.app r.args r.f a)) KX G.T.g G.T.b G.T.builtins G.T.nolimit hg hwl (pl_encAll _ _) (layable_weight hlay) hr hF hb (by rw [encAll_len]; exact hlen)
    (fun H xs hO hS => hsp w H xs a hO hwi e2 hS) fun H e s' => hCX w H s₁ e s') fun r' s' hq => ?_)
  obtain ⟨u, as', rfl, h1, h2, h3, h4⟩ := hq
  exact ⟨.inl ⟨u, _, as', rfl, fun _ => rfl, h1, (OpenSpec.post_iff hwell hwi _ _).mpr rfl, fun z => Bool.noConfusion (show false = true from z)⟩, h2, h3, h4⟩
/-- the same where the promise hangs on the written part alone -/
theorem walk_specK {r : OpenSpec} {k : Nat} {q : Program} {loose : List Str} {XP : (Str → Option Value) → Heap → Prop} {YP : World → Heap → Prop} {d : DefRec} {K : Params → PySem.W.Frag} {CX : CXT} {ps : List Str} {sp : PySem.W.Frag → Sp}
    (hwell : r.wellSaid = true) (hdf : d.params.defaults = []) (hlen : r.args.length = ps.length) (hr : Room k callerA)
    (hY : ∀ (w : World) (h : Heap), YP w h → (K w.params).In h)
    (F : ∀ (w : World) (mg : Str → Option Value) (fa : Addr) (h : Heap), YP w h → (K w.params).In h → h.Ns mainGlobals mg → mg d.name = some (.ref fa) →
      ∃ fd : FuncData, (∀ (s : Shared) (us : List Value), us.length = ps.length → BindsTo s fd ⟨us, []⟩ (ps.zip us)) ∧
        ∀ base : Heap, (K w.params).In base → base.Ns mainGlobals mg → FnOk r.prog w (K w.params) mg base CX k fa fd ps (sp (K w.params)))
    (hsp : ∀ (K : PySem.W.Frag) (H : Hp) (xs : List V) (a : Codec.denoteAll r.args), OnlyF H → Codec.withinAll r.args a = true → Codec.app r.args r.asked a = true → DwAll K H xs (Codec.encAll r.args a) →
      sp K xs H (fun v H' => Dw K H' v (r.ret.enc (Codec.app r.args r.f a))) fun _ _ _ => False)
    (hCX : ∀ (H : Hp) (s : Shared) (e : Value) (s' : Shared), CX [] H s (fun _ _ _ => False) e s' → False) :
    PySem.W.WalkOS q loose XP YP r d [] (fun f vs => PySem.call f vs) :=
  walk_spec (K := K) (CX := fun _ => CX) (sp := fun w => sp (K w.params)) hwell hdf hlen hr hY F (fun w H xs a h1 h2 h3 h4 => hsp (K w.params) H xs a h1 h2 h3 h4) fun _ H s e s' => hCX H s e s'
end L2
end
/-! SHORT WORDS over the layer: a def of the text, its body, what a loop and a test want. -/
namespace L2
open PySem PySem.Spec PyProof.Rows

/-! ### the text by places -/
/-- the j-th statement of a class's body -/
def inClass (s : Stmt) (j : Nat) : Stmt := match s with
  | .ClassDef _ _ _ body _ _ _ _ _ _ _ => body.getD j (.Pass ⟨0, 0, 0, 0⟩)
  | _ => .Pass ⟨0, 0, 0, 0⟩
def defArgs (s : Stmt) : Arguments := match s with
  | .FunctionDef _ a _ _ _ _ _ _ _ _ => a
  | _ => { posonlyargs := [], args := [], vararg := none, kwonlyargs := [], kw_defaults := [], kwarg := none, defaults := [] }
def defBody (s : Stmt) : List Stmt := match s with
  | .FunctionDef _ _ b _ _ _ _ _ _ _ => b
  | _ => []
def defScope (s : Stmt) : Scope := match s with
  | .FunctionDef _ _ _ _ _ _ sc _ _ _ => sc
  | _ => { kind := .function, names := [], isGenerator := false, isCoroutine := false }

/-! ### no exception leaves a def -/
abbrev CX0 : CXT := fun _ _ _ _ _ _ => False
abbrev E0 : XK := fun _ _ _ => False
theorem pass0 {X : Cx} : Passes CX0 X E0 := fun _ _ _ _ _ _ _ h => h.elim

/-! ### a def (or method) of the text as it stands behind the top -/
structure Fun (K : PySem.W.Frag) (x qual : Str) (st : Stmt) (f : Addr) (fd : FuncData) : Prop where
  ex : ∃ (oc : Value) (od : Option Addr) (kV doc pm : Value) (an : Option Addr) (cdv ct : Value) (osl : Array (Option Value)),
    fd = PySem.W.fnOf x qual (defArgs st) (defBody st) (defScope st) .none kV doc pm an cdv ct ∧ K.lookup f = some ⟨oc, od, .func fd, osl⟩ ∧ PySem.W.codeIn K cdv qual = true
  kp : PySem.W.keepIn K (.ref f) = true
section
variable {P : Program} {w : World} {K : PySem.W.Frag} {mg : Str → Option Value} {base : Heap}
/-- THE RULE for a def: its body as a term of rules, and the reading of that term -/
theorem Fun.ok {x qual : Str} {st : Stmt} {f : Addr} {fd : FuncData} {N ps : List Str} {k : Nat} {sp : Sp} (F : Fun K x qual st f fd) (S : FnScope N ps (defScope st)) (len : ∀ vs H Q E, sp vs H Q E → vs.length = ps.length)
    (hbody : ∀ (cdv : Value) (A : Around) (outer : List Env) (s : Shared) (H : Hp) (vs : List V) (Q : VK) (E : XK), Room k (A.deeper (envOfC qual (defScope st) s.heap.objs.size f cdv)) → sp vs H Q E →
      ∃ t, PSs (cxOf CX0 P w K mg base N qual (defScope st) f cdv A outer s H E).nox (defBody st) t ∧ t { nx := fun _ H' => Q .non H', rt := Q } (start N vs) H) : FnOk P w K mg base CX0 (k + 1) f fd ps sp := by
  obtain ⟨oc, od, kV, doc, pm, an, cdv, ct, osl, rfl, lk, hcd⟩ := F.ex
  refine fn_of lk hcd S len fun A outer s H vs Q E hr hsp => ?_
  obtain ⟨t, h, q⟩ := hbody cdv A outer s H vs Q E hr hsp
  exact ⟨t, h.nox, q⟩
/-- how its arguments bind (no defaults): h is «fun _ _ _ _ _ _ us hl => match us, hl with | [_, _], _ => rfl», one _ a parameter -/
theorem Fun.binds {x qual : Str} {st : Stmt} {f : Addr} {fd : FuncData} {ps : List Str} (F : Fun K x qual st f fd)
    (h : ∀ (kV doc pm : Value) (an : Option Addr) (cdv ct : Value) (us : List Value), us.length = ps.length → bindArgs (PySem.W.fnOf x qual (defArgs st) (defBody st) (defScope st) .none kV doc pm an cdv ct) ⟨us, []⟩ = pure (ps.zip us)) : Binds K fd ps [] := by
  obtain ⟨oc, od, kV, doc, pm, an, cdv, ct, osl, rfl, lk, hcd⟩ := F.ex
  exact .all (h kV doc pm an cdv ct)
theorem fun_mk {x qual : Str} {st : Stmt} {f : Addr} {oc : Value} {od an : Option Addr} {osl : Array (Option Value)} {kV doc pm cdv ct : Value} (l : K.lookup f = some ⟨oc, od, .func (PySem.W.fnOf x qual (defArgs st) (defBody st) (defScope st) .none kV doc pm an cdv ct), osl⟩)
    (c : PySem.W.codeIn K cdv qual = true) (k : PySem.W.keepIn K (.ref f) = true) : Fun K x qual st f (PySem.W.fnOf x qual (defArgs st) (defBody st) (defScope st) .none kV doc pm an cdv ct) := ⟨⟨oc, od, kV, doc, pm, an, cdv, ct, osl, rfl, l, c⟩, k⟩
end
/-! ### expressions in short: the name that stands in the i-th slot -/
section
variable {X : Cx}
theorem pv (i : Nat) {x : Str} {pos : Pos} (hN : X.N[i]? = some x := by rfl) (hv : Vis X.env.scope x := by first | exact Or.inl rfl | exact Or.inr (Or.inl rfl) | exact Or.inr (Or.inr rfl)) (hd : (x == ("__debug__" : Str)) = false := by decide)
    (hcd : (x == ("__classdict__" : Str)) = false := by decide) : PE X (.Name x pos) (tVar i) := pe_var hN hv hd hcd
end

/-! ### tests -/
theorem iteF {A B : Prop} (h : B) : if false = true then A else B := by
  rw [if_neg Bool.false_ne_true]
  exact h
/-! ### heaps -/
/-- all that was tracked is as it was -/
def Same (H H' : Hp) : Prop := ∀ b o, H b = some o → H' b = some o
theorem Same.refl (H : Hp) : Same H H := fun _ _ h => h
theorem Same.trans {H H1 H2 : Hp} (a : Same H H1) (b : Same H1 H2) : Same H H2 := fun c o h => b c o (a c o h)
theorem Same.free {H H' : Hp} (e : Same H H') {l : Addr} (h : H' l = Option.none) : H l = Option.none := by
  cases q : H l with
  | none => rfl
  | some o =>
    rw [e l o q] at h
    cases h
theorem Same.seq {K : PySem.W.Frag} {H H' : Hp} {a : Addr} {xs : List V} (e : Same H H') (h : SqL K H a xs) : SqL K H' a xs := by
  rcases h with (h | ⟨o, h⟩) | h
  · exact .inl (.inl (e _ _ h))
  · exact .inl (.inr ⟨o, e _ _ h⟩)
  · exact .inr h

/-! ### a dict's pairs: keys that differ -/
section
variable {κ : Type} [DecidableEq κ]
end
/-! ### lists -/
theorem at_of {xs : List V} {z : Int} {j : Nat} {v : V} (e : z = (j : Int)) (h : xs[j]? = some v) : atI xs z = some v := by
  rw [e]
  exact atI_nat h
theorem nd_ix {α : Type} {l : List α} (hN : l.Nodup) {i j : Nat} {x : α} (a : l[i]? = some x) (b : l[j]? = some x) : i = j := by
  obtain ⟨h1, e1⟩ := List.getElem?_eq_some_iff.mp a
  obtain ⟨h2, e2⟩ := List.getElem?_eq_some_iff.mp b
  exact (List.getElem_inj hN).mp (e1.trans e2.symm)
/-- a new instance and its __init__ leave all that was tracked as it was -/
theorem Same.made {H H1 : Hp} {x dx C : Addr} (nx : H x = Option.none) (nd : H dx = Option.none) (k : ∀ b o, (upd (upd H dx (.own x)) x (.ins C dx [])) b = some o → b ≠ x → H1 b = some o) : Same H H1 := fun b o e =>
  k b o (by rw [upd_ne (ne_of_none e nx), upd_ne (ne_of_none e nd)]; exact e) (ne_of_none e nx)
end L2


end
set_option Elab.async false
set_option linter.all false
set_option maxRecDepth 100000
set_option maxHeartbeats 2000000
namespace My
section
theorem arr_getD (f : Nat → Nat) {x n : Nat} (h : x < n) : ((Array.range n).map f).getD x 0 = f x := by
  simp [Array.getD, h]
theorem inv_eq {x : Nat} (h : x < 256) : Sy22.inv x = Sy22.power x 254 := by
  unfold Sy22.inv Sy22.inverses
  exact arr_getD _ h
theorem twice_lt {b : Nat} (h : b < 256) : Sy22.twice b < 256 := by
  have : ∀ b : Fin 256, Sy22.twice b.1 < 256 := by decide +kernel
  exact this ⟨b, h⟩
theorem xor256 {a b : Nat} (h : a < 256) (h' : b < 256) : a ^^^ b < 256 := Nat.xor_lt_two_pow (n := 8) h h'
theorem twice_eq {a : Nat} (h : a < 256) : Sy22.twice a = (2 * a) ^^^ (283 * (a / 128)) := by
  have : ∀ b : Fin 256, Sy22.twice b.1 = (2 * b.1) ^^^ (283 * (b.1 / 128)) := by decide +kernel
  exact this ⟨a, h⟩
theorem two_xor (a b : Nat) : 2 * (a ^^^ b) = (2 * a) ^^^ (2 * b) := by
  have := Nat.shiftLeft_xor_distrib (a := a) (b := b) (i := 1)
  simpa [Nat.shiftLeft_eq, Nat.mul_comm] using this
theorem div_xor (a b : Nat) : (a ^^^ b) / 128 = (a / 128) ^^^ (b / 128) := by
  have := Nat.shiftRight_xor_distrib (a := a) (b := b) (i := 7)
  simpa [Nat.shiftRight_eq_div_pow] using this
theorem xor4 (a b c d : Nat) : (a ^^^ b) ^^^ (c ^^^ d) = (a ^^^ c) ^^^ (b ^^^ d) := by
  rw [Nat.xor_assoc, Nat.xor_assoc, ← Nat.xor_assoc b c d, Nat.xor_comm b c, Nat.xor_assoc c b d]
theorem m283 {x y : Nat} (hx : x < 2) (hy : y < 2) : 283 * (x ^^^ y) = (283 * x) ^^^ (283 * y) := by
  have : ∀ x y : Fin 2, 283 * (x.1 ^^^ y.1) = (283 * x.1) ^^^ (283 * y.1) := by decide
  exact this ⟨x, hx⟩ ⟨y, hy⟩
theorem twice_xor {a b : Nat} (ha : a < 256) (hb : b < 256) : Sy22.twice (a ^^^ b) = Sy22.twice a ^^^ Sy22.twice b := by
  rw [twice_eq ha, twice_eq hb, twice_eq (xor256 ha hb), two_xor, div_xor, m283 (by omega) (by omega), xor4]
theorem product_lt : ∀ (n : Nat) {a : Nat} (b : Nat), a < 256 → Sy22.product n a b < 256
  | 0, _, _, _ => by show 0 < 256; omega
  | n + 1, a, b, h => by
    show (if b % 2 = 1 then a else 0) ^^^ Sy22.product n (Sy22.twice a) (b / 2) < 256
    refine xor256 ?_ (product_lt n _ (twice_lt h))
    split
    · exact h
    · omega
theorem mul_lt {a : Nat} (b : Nat) (h : a < 256) : Sy22.mul a b < 256 := product_lt 8 b h
theorem product_xl : ∀ (n : Nat) {a c : Nat} (b : Nat), a < 256 → c < 256 → Sy22.product n (a ^^^ c) b = Sy22.product n a b ^^^ Sy22.product n c b
  | 0, _, _, _, _, _ => by simp [Sy22.product]
  | n + 1, a, c, b, ha, hc => by
    show (if b % 2 = 1 then a ^^^ c else 0) ^^^ Sy22.product n (Sy22.twice (a ^^^ c)) (b / 2) = ((if b % 2 = 1 then a else 0) ^^^ Sy22.product n (Sy22.twice a) (b / 2)) ^^^ ((if b % 2 = 1 then c else 0) ^^^ Sy22.product n (Sy22.twice c) (b / 2))
    rw [twice_xor ha hc, product_xl n _ (twice_lt ha) (twice_lt hc), xor4]
    split <;> simp
theorem product_xr : ∀ (n : Nat) {a : Nat} (b c : Nat), Sy22.product n a (b ^^^ c) = Sy22.product n a b ^^^ Sy22.product n a c
  | 0, _, _, _ => by simp [Sy22.product]
  | n + 1, a, b, c => by
    show (if (b ^^^ c) % 2 = 1 then a else 0) ^^^ Sy22.product n (Sy22.twice a) ((b ^^^ c) / 2) = ((if b % 2 = 1 then a else 0) ^^^ Sy22.product n (Sy22.twice a) (b / 2)) ^^^ ((if c % 2 = 1 then a else 0) ^^^ Sy22.product n (Sy22.twice a) (c / 2))
    rw [Nat.xor_div_two, product_xr n, xor4]
    congr 1
    have e := @Nat.xor_mod_two_eq_one b c
    by_cases h1 : b % 2 = 1
    · by_cases h2 : c % 2 = 1
      · rw [if_neg (by omega), if_pos h1, if_pos h2]; simp
      · rw [if_pos (by omega), if_pos h1, if_neg h2]; simp
    · by_cases h2 : c % 2 = 1
      · rw [if_pos (by omega), if_neg h1, if_pos h2]; simp
      · rw [if_neg (by omega), if_neg h1, if_neg h2]; simp
theorem mul_xl {a c : Nat} (b : Nat) (ha : a < 256) (hc : c < 256) : Sy22.mul (a ^^^ c) b = Sy22.mul a b ^^^ Sy22.mul c b := product_xl 8 b ha hc
theorem mul_xr (a b c : Nat) : Sy22.mul a (b ^^^ c) = Sy22.mul a b ^^^ Sy22.mul a c := product_xr 8 b c
/-- a byte by its bits -/
theorem bits8 {a : Nat} (h : a < 256) : a = (a % 2) ^^^ ((a / 2 % 2 * 2) ^^^ ((a / 4 % 2 * 4) ^^^ ((a / 8 % 2 * 8) ^^^ ((a / 16 % 2 * 16) ^^^ ((a / 32 % 2 * 32) ^^^ ((a / 64 % 2 * 64) ^^^ (a / 128 % 2 * 128))))))) := by
  have : ∀ a : Fin 256, a.1 = (a.1 % 2) ^^^ ((a.1 / 2 % 2 * 2) ^^^ ((a.1 / 4 % 2 * 4) ^^^ ((a.1 / 8 % 2 * 8) ^^^ ((a.1 / 16 % 2 * 16) ^^^ ((a.1 / 32 % 2 * 32) ^^^ ((a.1 / 64 % 2 * 64) ^^^ (a.1 / 128 % 2 * 128))))))) := by decide +kernel
  exact this ⟨a, h⟩
def Lin (f : Nat → Nat) : Prop := ∀ a b, a < 256 → b < 256 → f (a ^^^ b) = f a ^^^ f b
theorem Lin.zero {f : Nat → Nat} (h : Lin f) : f 0 = 0 := by
  have := h 0 0 (by omega) (by omega)
  simpa using this
theorem bit_same {f g : Nat → Nat} (hf : Lin f) (hg : Lin g) {k : Nat} (e : f k = g k) (m : Nat) : f (m % 2 * k) = g (m % 2 * k) := by
  rcases Nat.mod_two_eq_zero_or_one m with h | h
  · rw [h, Nat.zero_mul, hf.zero, hg.zero]
  · rw [h, Nat.one_mul, e]
theorem lin_ext {f g : Nat → Nat} (hf : Lin f) (hg : Lin g) (h : ∀ i : Fin 8, f (2 ^ i.1) = g (2 ^ i.1)) {a : Nat} (ha : a < 256) : f a = g a := by
  have b : ∀ m k : Nat, k ≤ 128 → m % 2 * k < 256 := fun m k hk => by
    rcases Nat.mod_two_eq_zero_or_one m with h | h <;> rw [h] <;> omega
  have e0 : f (a % 2) = g (a % 2) := by have := bit_same hf hg (h 0) a; simpa using this
  have e1 := bit_same hf hg (h 1) (a / 2)
  have e2 := bit_same hf hg (h 2) (a / 4)
  have e3 := bit_same hf hg (h 3) (a / 8)
  have e4 := bit_same hf hg (h 4) (a / 16)
  have e5 := bit_same hf hg (h 5) (a / 32)
  have e6 := bit_same hf hg (h 6) (a / 64)
  have e7 := bit_same hf hg (h 7) (a / 128)
  have c7 := b (a / 128) 128 (by omega)
  have c6 := xor256 (b (a / 64) 64 (by omega)) c7
  have c5 := xor256 (b (a / 32) 32 (by omega)) c6
  have c4 := xor256 (b (a / 16) 16 (by omega)) c5
  have c3 := xor256 (b (a / 8) 8 (by omega)) c4
  have c2 := xor256 (b (a / 4) 4 (by omega)) c3
  have c1 := xor256 (b (a / 2) 2 (by omega)) c2
  have step : ∀ {F : Nat → Nat}, Lin F → F a = F (a % 2) ^^^ (F (a / 2 % 2 * 2) ^^^ (F (a / 4 % 2 * 4) ^^^ (F (a / 8 % 2 * 8) ^^^ (F (a / 16 % 2 * 16) ^^^ (F (a / 32 % 2 * 32) ^^^ (F (a / 64 % 2 * 64) ^^^ F (a / 128 % 2 * 128))))))) := fun {F} hF => by
    have e := congrArg F (bits8 ha)
    rw [hF _ _ (by omega) c1, hF _ _ (b _ _ (by omega)) c2, hF _ _ (b _ _ (by omega)) c3, hF _ _ (b _ _ (by omega)) c4, hF _ _ (b _ _ (by omega)) c5, hF _ _ (b _ _ (by omega)) c6, hF _ _ (b _ _ (by omega)) c7] at e
    exact e
  rw [step hf, step hg, e0]
  simp only [show (2 : Nat) ^ (1 : Fin 8).1 = 2 from rfl, show (2 : Nat) ^ (2 : Fin 8).1 = 4 from rfl, show (2 : Nat) ^ (3 : Fin 8).1 = 8 from rfl, show (2 : Nat) ^ (4 : Fin 8).1 = 16 from rfl, show (2 : Nat) ^ (5 : Fin 8).1 = 32 from rfl, show (2 : Nat) ^ (6 : Fin 8).1 = 64 from rfl, show (2 : Nat) ^ (7 : Fin 8).1 = 128 from rfl] at e1 e2 e3 e4 e5 e6 e7
  rw [e1, e2, e3, e4, e5, e6, e7]
theorem linL (b : Nat) : Lin fun a => Sy22.mul a b := fun a c ha hc => mul_xl b ha hc
theorem linR (a : Nat) : Lin fun b => Sy22.mul a b := fun b c _ _ => mul_xr a b c
theorem p2 (i : Fin 8) : 2 ^ i.1 < 256 := by
  have : ∀ i : Fin 8, 2 ^ i.1 < 256 := by decide
  exact this i
theorem mul_comm' {a b : Nat} (ha : a < 256) (hb : b < 256) : Sy22.mul a b = Sy22.mul b a :=
  lin_ext (linL b) (linR b) (fun i => lin_ext (linR (2 ^ i.1)) (linL (2 ^ i.1)) (fun j => by
    have : ∀ i j : Fin 8, Sy22.mul (2 ^ i.1) (2 ^ j.1) = Sy22.mul (2 ^ j.1) (2 ^ i.1) := by decide +kernel
    exact this i j) hb) ha
theorem mul_assoc' {a b c : Nat} (ha : a < 256) (hb : b < 256) (hc : c < 256) : Sy22.mul a (Sy22.mul b c) = Sy22.mul (Sy22.mul a b) c := by
  refine lin_ext (f := fun a => Sy22.mul a (Sy22.mul b c)) (g := fun a => Sy22.mul (Sy22.mul a b) c) (linL _) (fun x y hx hy => ?_) (fun i => ?_) ha
  · show Sy22.mul (Sy22.mul (x ^^^ y) b) c = _
    rw [mul_xl b hx hy, mul_xl c (mul_lt b hx) (mul_lt b hy)]
  refine lin_ext (f := fun b => Sy22.mul (2 ^ i.1) (Sy22.mul b c)) (g := fun b => Sy22.mul (Sy22.mul (2 ^ i.1) b) c) (fun x y hx hy => ?_) (fun x y hx hy => ?_) (fun j => ?_) hb
  · show Sy22.mul _ (Sy22.mul (x ^^^ y) c) = _
    rw [mul_xl c hx hy, mul_xr]
  · show Sy22.mul (Sy22.mul _ (x ^^^ y)) c = _
    rw [mul_xr, mul_xl c (mul_lt x (p2 i)) (mul_lt y (p2 i))]
  refine lin_ext (f := fun c => Sy22.mul (2 ^ i.1) (Sy22.mul (2 ^ j.1) c)) (g := fun c => Sy22.mul (Sy22.mul (2 ^ i.1) (2 ^ j.1)) c) (fun x y hx hy => ?_) (linR _) (fun k => ?_) hc
  · show Sy22.mul _ (Sy22.mul _ (x ^^^ y)) = _
    rw [mul_xr, mul_xr]
  · have : ∀ i j k : Fin 8, Sy22.mul (2 ^ i.1) (Sy22.mul (2 ^ j.1) (2 ^ k.1)) = Sy22.mul (Sy22.mul (2 ^ i.1) (2 ^ j.1)) (2 ^ k.1) := by decide +kernel
    exact this i j k
theorem mul_one' {a : Nat} (ha : a < 256) : Sy22.mul 1 a = a := by
  have : ∀ a : Fin 256, Sy22.mul 1 a.1 = a.1 := by decide +kernel
  exact this ⟨a, ha⟩
theorem power_lt {x : Nat} (h : x < 256) : ∀ n, Sy22.power x n < 256
  | 0 => by show 1 < 256; omega
  | n + 1 => mul_lt _ h
theorem power_add {x : Nat} (h : x < 256) (m : Nat) : ∀ n, Sy22.power x (n + m) = Sy22.mul (Sy22.power x n) (Sy22.power x m)
  | 0 => by rw [Nat.zero_add]; exact (mul_one' (power_lt h m)).symm
  | n + 1 => by
    rw [Nat.add_right_comm]
    show Sy22.mul x (Sy22.power x (n + m)) = Sy22.mul (Sy22.mul x (Sy22.power x n)) (Sy22.power x m)
    rw [power_add h m n, mul_assoc' h (power_lt h n) (power_lt h m)]
theorem power_one {x : Nat} (h : x < 256) : Sy22.power x 1 = x := by
  show Sy22.mul x 1 = x
  rw [mul_comm' h (by omega), mul_one' h]
def pw254 (x : Nat) : Nat :=
  let a2 := Sy22.mul x x
  let a4 := Sy22.mul a2 a2
  let a8 := Sy22.mul a4 a4
  let a16 := Sy22.mul a8 a8
  let a32 := Sy22.mul a16 a16
  let a64 := Sy22.mul a32 a32
  let a128 := Sy22.mul a64 a64
  Sy22.mul a128 (Sy22.mul a64 (Sy22.mul a32 (Sy22.mul a16 (Sy22.mul a8 (Sy22.mul a4 a2)))))
theorem pow254 {x : Nat} (h : x < 256) : Sy22.power x 254 = pw254 x := by
  have e2 : Sy22.power x 2 = Sy22.mul x x := by rw [power_add h 1 1, power_one h]
  have d : ∀ n, Sy22.power x (n + n) = Sy22.mul (Sy22.power x n) (Sy22.power x n) := fun n => power_add h n n
  have e4 := d 2
  have e8 := d 4
  have e16 := d 8
  have e32 := d 16
  have e64 := d 32
  have e128 := d 64
  have s := power_add h 126 128
  rw [power_add h 62 64, power_add h 30 32, power_add h 14 16, power_add h 6 8, power_add h 2 4] at s
  unfold pw254
  simp only [Nat.reduceAdd] at *
  rw [s, e128, e64, e32, e16, e8, e4, e2]
theorem sub_eq {x : Nat} (h : x < 256) : Sy22.sub x = (let s := pw254 x; s ^^^ (Sy22.turn s 1 ^^^ (Sy22.turn s 2 ^^^ (Sy22.turn s 3 ^^^ (Sy22.turn s 4 ^^^ 0x63))))) := by
  unfold Sy22.sub Sy22.subs
  rw [arr_getD _ h]
  dsimp only
  rw [inv_eq h, pow254 h]
theorem turn_lt {x k : Nat} (h : x < 256) (hk : k ≤ 8) : Sy22.turn x k < 256 := by
  unfold Sy22.turn
  refine Nat.or_lt_two_pow (n := 8) (by omega) ?_
  exact Nat.lt_of_le_of_lt (Nat.div_le_self _ _) h
theorem back_eq {x : Nat} (h : x < 256) : Sy22.back x = pw254 (Sy22.turn x 1 ^^^ (Sy22.turn x 3 ^^^ (Sy22.turn x 6 ^^^ 0x05))) := by
  unfold Sy22.back Sy22.backs
  rw [arr_getD _ h]
  have l : Sy22.turn x 1 ^^^ (Sy22.turn x 3 ^^^ (Sy22.turn x 6 ^^^ 0x05)) < 256 := xor256 (turn_lt h (by omega)) (xor256 (turn_lt h (by omega)) (xor256 (turn_lt h (by omega)) (by omega)))
  rw [inv_eq l, pow254 l]
end
section
def SUB : List Nat := [99, 124, 119, 123, 242, 107, 111, 197, 48, 1, 103, 43, 254, 215, 171, 118, 202, 130, 201, 125, 250, 89, 71, 240, 173, 212, 162, 175, 156, 164, 114, 192, 183, 253, 147, 38, 54, 63, 247, 204, 52, 165, 229, 241, 113, 216, 49, 21, 4, 199, 35, 195, 24, 150, 5, 154, 7, 18, 128, 226, 235, 39, 178, 117, 9, 131, 44, 26, 27, 110, 90, 160, 82, 59, 214, 179, 41, 227, 47, 132, 83, 209, 0, 237, 32, 252, 177, 91, 106, 203, 190, 57, 74, 76, 88, 207, 208, 239, 170, 251, 67, 77, 51, 133, 69, 249, 2, 127, 80, 60, 159, 168, 81, 163, 64, 143, 146, 157, 56, 245, 188, 182, 218, 33, 16, 255, 243, 210, 205, 12, 19, 236, 95, 151, 68, 23, 196, 167, 126, 61, 100, 93, 25, 115, 96, 129, 79, 220, 34, 42, 144, 136, 70, 238, 184, 20, 222, 94, 11, 219, 224, 50, 58, 10, 73, 6, 36, 92, 194, 211, 172, 98, 145, 149, 228, 121, 231, 200, 55, 109, 141, 213, 78, 169, 108, 86, 244, 234, 101, 122, 174, 8, 186, 120, 37, 46, 28, 166, 180, 198, 232, 221, 116, 31, 75, 189, 139, 138, 112, 62, 181, 102, 72, 3, 246, 14, 97, 53, 87, 185, 134, 193, 29, 158, 225, 248, 152, 17, 105, 217, 142, 148, 155, 30, 135, 233, 206, 85, 40, 223, 140, 161, 137, 13, 191, 230, 66, 104, 65, 153, 45, 15, 176, 84, 187, 22]
theorem sub_tab {x : Nat} (h : x < 256) : SUB.getD x 0 = Sy22.sub x := by
  have : ∀ x : Fin 256, SUB.getD x.1 0 = (let s := pw254 x.1; s ^^^ (Sy22.turn s 1 ^^^ (Sy22.turn s 2 ^^^ (Sy22.turn s 3 ^^^ (Sy22.turn s 4 ^^^ 0x63))))) := by decide +kernel
  rw [sub_eq h]
  exact this ⟨x, h⟩
theorem sub_lt {x : Nat} (h : x < 256) : Sy22.sub x < 256 := by
  rw [← sub_tab h]
  have : ∀ x : Fin 256, SUB.getD x.1 0 < 256 := by decide +kernel
  exact this ⟨x, h⟩
theorem SUB_len : SUB.length = 256 := by decide +kernel
end
section
def Bytes (xs : List Nat) : Prop := ∀ x ∈ xs, x < 256
theorem Bytes.at_ {xs : List Nat} (h : Bytes xs) (i : Nat) : xs.getD i 0 < 256 := by
  by_cases hi : i < xs.length
  · rw [show xs.getD i 0 = xs[i] by simp [hi]]; exact h _ (List.getElem_mem hi)
  · rw [show xs.getD i 0 = 0 by simp [hi]]; omega
theorem Bytes.app {xs ys : List Nat} (h : Bytes xs) (h' : Bytes ys) : Bytes (xs ++ ys) := fun x hx => (List.mem_append.mp hx).elim (h x) (h' x)
theorem Bytes.take {xs : List Nat} (h : Bytes xs) (n : Nat) : Bytes (xs.take n) := fun x hx => h x (List.mem_of_mem_take hx)
theorem Bytes.drop {xs : List Nat} (h : Bytes xs) (n : Nat) : Bytes (xs.drop n) := fun x hx => h x (List.mem_of_mem_drop hx)
theorem Bytes.nil : Bytes [] := fun _ h => by cases h
theorem Bytes.flat {w : List (List Nat)} (h : ∀ x ∈ w, Bytes x) : Bytes w.flatten := fun x hx => by
  obtain ⟨l, hl, hx⟩ := List.mem_flatten.mp hx
  exact h l hl x hx
/-! ### columns -/
theorem xor_cancel (a b : Nat) : a ^^^ (a ^^^ b) = b := by rw [← Nat.xor_assoc, Nat.xor_self, Nat.zero_xor]
theorem xlc (a b c : Nat) : a ^^^ (b ^^^ c) = b ^^^ (a ^^^ c) := by rw [← Nat.xor_assoc, Nat.xor_comm a b, Nat.xor_assoc]
theorem getD_app1 {xs ys : List Nat} {i : Nat} (h : i < xs.length) : (xs ++ ys).getD i 0 = xs.getD i 0 := by
  simp [List.getD, List.getElem?_append_left h]
theorem getD_app2 {xs ys : List Nat} {i : Nat} (h : xs.length ≤ i) : (xs ++ ys).getD i 0 = ys.getD (i - xs.length) 0 := by
  simp [List.getD, List.getElem?_append_right h]
theorem flatMap_same {α β : Type} {l : List α} {f g : α → List β} (h : ∀ x ∈ l, f x = g x) : l.flatMap f = l.flatMap g := by
  induction l with
  | nil => rfl
  | cons a l ih => rw [List.flatMap_cons, List.flatMap_cons, h a List.mem_cons_self, ih fun x hx => h x (List.mem_cons_of_mem _ hx)]
theorem foldl_range {α : Type} (f : α → α) (a : α) : ∀ n, (List.range (n + 1)).foldl (fun x (_ : Nat) => f x) a = f ((List.range n).foldl (fun x (_ : Nat) => f x) a) := fun n => by
  rw [List.range_succ, List.foldl_append]; rfl
theorem Bytes.map {xs : List Nat} {f : Nat → Nat} (h : Bytes xs) (hf : ∀ x, x < 256 → f x < 256) : Bytes (xs.map f) := fun y hy => by
  obtain ⟨x, hx, rfl⟩ := List.mem_map.mp hy
  exact hf x (h x hx)
theorem Bytes.xor {xs ys : List Nat} (h : Bytes xs) (h' : Bytes ys) : Bytes (Sy22.xor xs ys) := fun z hz => by
  unfold Sy22.xor at hz
  rw [List.mem_iff_getElem?] at hz
  obtain ⟨i, hi⟩ := hz
  rw [List.getElem?_zipWith] at hi
  cases e1 : xs[i]? with
  | none => rw [e1] at hi; simp at hi
  | some a =>
    cases e2 : ys[i]? with
    | none => rw [e1, e2] at hi; simp at hi
    | some b =>
      rw [e1, e2] at hi
      have : a ^^^ b = z := by simpa using hi
      subst this
      exact xor256 (h a (List.mem_of_getElem? e1)) (h' b (List.mem_of_getElem? e2))
theorem xor_len (xs ys : List Nat) : (Sy22.xor xs ys).length = min xs.length ys.length := by unfold Sy22.xor; simp
theorem part_len {key : List Nat} {i n : Nat} (h : i + n ≤ key.length) : (Sy22.part key i n).length = n := by unfold Sy22.part; simp; omega
theorem part_bytes {key : List Nat} (h : Bytes key) (i n : Nat) : Bytes (Sy22.part key i n) := (h.drop i).take n
theorem parts_flatM (m : Nat) (key : List Nat) : ∀ n, m * n ≤ key.length → ((List.range n).map fun (i : Nat) => Sy22.part key (m * i) m).flatten = key.take (m * n)
  | 0, _ => by simp
  | n + 1, h => by
    rw [Nat.mul_add, Nat.mul_one] at h
    rw [List.range_succ, List.map_append, List.flatten_append, parts_flatM m key n (by omega)]
    simp only [List.map_cons, List.map_nil, List.flatten_cons, List.flatten_nil, List.append_nil]
    unfold Sy22.part
    rw [Nat.mul_add, Nat.mul_one, List.take_add]
def ans (z : Int) (ls : List (List Nat)) : List Int := 1 :: z :: ls.flatMap fun l => (l.length : Int) :: l.map fun (n : Nat) => (n : Int)
theorem ans_snoc (z : Int) (ls : List (List Nat)) (l : List Nat) : ans z (ls ++ [l]) = (ans z ls ++ [(l.length : Int)]) ++ l.map fun (n : Nat) => (n : Int) := by
  unfold ans
  simp
theorem ans_le (z : Int) (l1 l2 : List (List Nat)) : (ans z l1).length ≤ (ans z (l1 ++ l2)).length := by
  unfold ans
  simp
theorem f_ans (a : Sy22.Ans) : (Sy22Neutral.inRows a).flatMap (fun (l : List Int) => (l.length : Int) :: l) = ans a.v a.rows := by
  unfold Sy22Neutral.inRows ans Sy22Neutral.ints
  rw [List.flatMap_cons, List.flatMap_map]
  simp
/-- what is asked of a key -/
theorem just_of {l : List Int} {n : Nat} (h : Sy22Neutral.just l n = true) : (∀ x ∈ l, 0 ≤ x ∧ x ≤ 255) ∧ l.length = n := by
  unfold Sy22Neutral.just at h
  rw [Bool.and_eq_true, List.all_eq_true] at h
  refine ⟨fun x hx => ?_, by simpa using h.2⟩
  have := h.1 x hx
  unfold Sy22Neutral.byte Sy22Neutral.within at this
  simpa using this
theorem nats_len (l : List Int) : (Sy22Neutral.nats l).length = l.length := by unfold Sy22Neutral.nats; simp
theorem nats_bytes {l : List Int} (h : ∀ x ∈ l, 0 ≤ x ∧ x ≤ 255) : Bytes (Sy22Neutral.nats l) := fun y hy => by
  unfold Sy22Neutral.nats at hy
  obtain ⟨x, hx, rfl⟩ := List.mem_map.mp hy
  have := h x hx
  omega
theorem nats_back {l : List Int} (h : ∀ x ∈ l, 0 ≤ x ∧ x ≤ 255) : (Sy22Neutral.nats l).map (fun (n : Nat) => (n : Int)) = l := by
  unfold Sy22Neutral.nats
  rw [List.map_map]
  refine (List.map_congr_left fun x hx => ?_).trans (List.map_id l)
  have := h x hx
  show ((x.toNat : Nat) : Int) = x
  omega
theorem word_of {z : Int} (h : Sy22Neutral.word z = true) : 0 ≤ z ∧ z ≤ 18446744073709551615 := by
  unfold Sy22Neutral.word Sy22Neutral.within at h
  simpa using h
theorem some_of {l : List Int} {n : Nat} (h : Sy22Neutral.some_ l n = true) : (∀ x ∈ l, 0 ≤ x ∧ x ≤ 255) ∧ l.length ≤ n := by
  unfold Sy22Neutral.some_ at h
  rw [Bool.and_eq_true, List.all_eq_true] at h
  refine ⟨fun x hx => ?_, by simpa using h.2⟩
  have := h.1 x hx
  unfold Sy22Neutral.byte Sy22Neutral.within at this
  simpa using this
theorem take_snoc {α : Type} : ∀ {l : List α} {i : Nat} {x : α}, l[i]? = some x → l.take (i + 1) = l.take i ++ [x]
  | [], i, x, h => by simp at h
  | a :: l, 0, x, h => by
    have e : a = x := Option.some.inj h
    subst e
    rfl
  | a :: l, i + 1, x, h => by
    have ih := take_snoc (l := l) (i := i) (x := x) h
    show a :: l.take (i + 1) = a :: l.take i ++ [x]
    rw [ih]
    rfl
end
section
def mixCol (xs : List Nat) (i : Nat) : List Nat :=
  let a := xs.getD (4 * i) 0
  let b := xs.getD (4 * i + 1) 0
  let c := xs.getD (4 * i + 2) 0
  let d := xs.getD (4 * i + 3) 0
  let w := a ^^^ b ^^^ c ^^^ d
  [a ^^^ w ^^^ Sy22.twice (a ^^^ b), b ^^^ w ^^^ Sy22.twice (b ^^^ c), c ^^^ w ^^^ Sy22.twice (c ^^^ d), d ^^^ w ^^^ Sy22.twice (d ^^^ a)]
def mixM (xs : List Nat) (n : Nat) : List Nat := (List.range n).flatMap (mixCol xs)
theorem mixM_succ (xs : List Nat) (n : Nat) : mixM xs (n + 1) = mixM xs n ++ mixCol xs n := by
  unfold mixM; rw [List.range_succ, List.flatMap_append]; simp
theorem mixM_len (xs : List Nat) : ∀ n, (mixM xs n).length = 4 * n
  | 0 => rfl
  | n + 1 => by rw [mixM_succ, List.length_append, mixM_len xs n]; rfl
def easeCol (xs : List Nat) (i : Nat) : List Nat :=
  let a := xs.getD (4 * i) 0
  let b := xs.getD (4 * i + 1) 0
  let c := xs.getD (4 * i + 2) 0
  let d := xs.getD (4 * i + 3) 0
  let e := Sy22.twice (Sy22.twice (a ^^^ c))
  let o := Sy22.twice (Sy22.twice (b ^^^ d))
  [a ^^^ e, b ^^^ o, c ^^^ e, d ^^^ o]
def easeM (xs : List Nat) (n : Nat) : List Nat := (List.range n).flatMap (easeCol xs)
theorem easeM_succ (xs : List Nat) (n : Nat) : easeM xs (n + 1) = easeM xs n ++ easeCol xs n := by
  unfold easeM; rw [List.range_succ, List.flatMap_append]; simp
theorem easeM_len (xs : List Nat) : ∀ n, (easeM xs n).length = 4 * n
  | 0 => rfl
  | n + 1 => by rw [easeM_succ, List.length_append, easeM_len xs n]; rfl
theorem easeM_bytes {xs : List Nat} (h : Bytes xs) : ∀ n, Bytes (easeM xs n)
  | 0 => fun _ h => by cases h
  | n + 1 => by
    rw [easeM_succ]
    refine (easeM_bytes h n).app fun x hx => ?_
    simp only [easeCol, List.mem_cons, List.not_mem_nil, or_false] at hx
    rcases hx with rfl | rfl | rfl | rfl <;> (repeat (first | apply xor256 | apply twice_lt | apply Bytes.at_ | assumption))
theorem mixM_bytes {xs : List Nat} (h : Bytes xs) : ∀ n, Bytes (mixM xs n)
  | 0 => fun _ h => by cases h
  | n + 1 => by
    rw [mixM_succ]
    refine (mixM_bytes h n).app fun x hx => ?_
    simp only [mixCol, List.mem_cons, List.not_mem_nil, or_false] at hx
    rcases hx with rfl | rfl | rfl | rfl <;> (repeat (first | apply xor256 | apply twice_lt | apply Bytes.at_ | assumption))
def mixBack (xs : List Nat) : List Nat := mixM (easeM xs 4) 4
theorem mul_by {a : Nat} (h : a < 256) : Sy22.mul 1 a = a ∧ Sy22.mul 2 a = Sy22.twice a ∧ Sy22.mul 3 a = a ^^^ Sy22.twice a ∧ Sy22.mul 9 a = a ^^^ Sy22.twice (Sy22.twice (Sy22.twice a)) ∧ Sy22.mul 11 a = a ^^^ (Sy22.twice a ^^^ Sy22.twice (Sy22.twice (Sy22.twice a))) ∧
    Sy22.mul 13 a = a ^^^ (Sy22.twice (Sy22.twice a) ^^^ Sy22.twice (Sy22.twice (Sy22.twice a))) ∧ Sy22.mul 14 a = Sy22.twice a ^^^ (Sy22.twice (Sy22.twice a) ^^^ Sy22.twice (Sy22.twice (Sy22.twice a))) := by
  have : ∀ a : Fin 256, Sy22.mul 1 a.1 = a.1 ∧ Sy22.mul 2 a.1 = Sy22.twice a.1 ∧ Sy22.mul 3 a.1 = a.1 ^^^ Sy22.twice a.1 ∧ Sy22.mul 9 a.1 = a.1 ^^^ Sy22.twice (Sy22.twice (Sy22.twice a.1)) ∧ Sy22.mul 11 a.1 = a.1 ^^^ (Sy22.twice a.1 ^^^ Sy22.twice (Sy22.twice (Sy22.twice a.1))) ∧
    Sy22.mul 13 a.1 = a.1 ^^^ (Sy22.twice (Sy22.twice a.1) ^^^ Sy22.twice (Sy22.twice (Sy22.twice a.1))) ∧ Sy22.mul 14 a.1 = Sy22.twice a.1 ^^^ (Sy22.twice (Sy22.twice a.1) ^^^ Sy22.twice (Sy22.twice (Sy22.twice a.1))) := by decide +kernel
  exact this ⟨a, h⟩
theorem mix_byte {a b c d : Nat} (ha : a < 256) (hb : b < 256) (hc : c < 256) (hd : d < 256) :
    a ^^^ (a ^^^ b ^^^ c ^^^ d) ^^^ Sy22.twice (a ^^^ b) = 0 ^^^ Sy22.mul 2 a ^^^ Sy22.mul 3 b ^^^ Sy22.mul 1 c ^^^ Sy22.mul 1 d := by
  rw [twice_xor ha hb, (mul_by ha).2.1, (mul_by hb).2.2.1, (mul_by hc).1, (mul_by hd).1]
  simp only [Nat.zero_xor, Nat.xor_assoc, xor_cancel]
  generalize Sy22.twice a = p
  generalize Sy22.twice b = q
  simp only [Nat.xor_assoc, Nat.xor_comm, xlc]
theorem range16 : List.range 16 = [0, 1, 2, 3, 4, 5, 6, 7, 8, 9, 10, 11, 12, 13, 14, 15] := by decide
theorem range4 : List.range 4 = [0, 1, 2, 3] := by decide
/-- a block, sixteen bytes, by the spec's matrix, item by item -/
theorem mixBy_eq (m s : List Nat) : Sy22.mixBy m s = (List.range 4).flatMap fun i => (List.range 4).map fun r =>
    0 ^^^ Sy22.mul (m.getD 0 0) (s.getD (4 * i + r % 4) 0) ^^^ Sy22.mul (m.getD 1 0) (s.getD (4 * i + (r + 1) % 4) 0) ^^^ Sy22.mul (m.getD 2 0) (s.getD (4 * i + (r + 2) % 4) 0) ^^^ Sy22.mul (m.getD 3 0) (s.getD (4 * i + (r + 3) % 4) 0) := by
  unfold Sy22.mixBy
  rw [range16, range4]
  rfl
theorem mix_eq {xs : List Nat} (h : Bytes xs) : Sy22.mix xs = mixM xs 4 := by
  unfold Sy22.mix mixM
  rw [mixBy_eq]
  congr 1
  funext i
  rw [range4]
  unfold mixCol
  dsimp only
  have ha := h.at_ (4 * i)
  have hb := h.at_ (4 * i + 1)
  have hc := h.at_ (4 * i + 2)
  have hd := h.at_ (4 * i + 3)
  simp only [List.map_cons, List.map_nil, List.getD_cons_zero, List.getD_cons_succ, Nat.reduceAdd, Nat.reduceMod, Nat.add_zero]
  generalize xs.getD (4 * i) 0 = a at *
  generalize xs.getD (4 * i + 1) 0 = b at *
  generalize xs.getD (4 * i + 2) 0 = c at *
  generalize xs.getD (4 * i + 3) 0 = d at *
  have e1 := mix_byte ha hb hc hd
  have e2 := mix_byte hb hc hd ha
  have e3 := mix_byte hc hd ha hb
  have e4 := mix_byte hd ha hb hc
  rw [← e1, ← e2, ← e3, ← e4]
  have r1 : b ^^^ c ^^^ d ^^^ a = a ^^^ b ^^^ c ^^^ d := by rw [Nat.xor_comm, ← Nat.xor_assoc, ← Nat.xor_assoc]
  have r2 : c ^^^ d ^^^ a ^^^ b = b ^^^ c ^^^ d ^^^ a := by rw [Nat.xor_comm, ← Nat.xor_assoc, ← Nat.xor_assoc]
  have r3 : d ^^^ a ^^^ b ^^^ c = c ^^^ d ^^^ a ^^^ b := by rw [Nat.xor_comm, ← Nat.xor_assoc, ← Nat.xor_assoc]
  rw [r3, r2, r1]
theorem unmix_byte {a b c d : Nat} (ha : a < 256) (hb : b < 256) (hc : c < 256) (hd : d < 256) :
    0 ^^^ Sy22.mul 2 (a ^^^ Sy22.twice (Sy22.twice (a ^^^ c))) ^^^ Sy22.mul 3 (b ^^^ Sy22.twice (Sy22.twice (b ^^^ d))) ^^^ Sy22.mul 1 (c ^^^ Sy22.twice (Sy22.twice (a ^^^ c))) ^^^ Sy22.mul 1 (d ^^^ Sy22.twice (Sy22.twice (b ^^^ d))) =
    0 ^^^ Sy22.mul 14 a ^^^ Sy22.mul 11 b ^^^ Sy22.mul 13 c ^^^ Sy22.mul 9 d := by
  have t1a := twice_lt ha
  have t1b := twice_lt hb
  have t1c := twice_lt hc
  have t1d := twice_lt hd
  have t2a := twice_lt t1a
  have t2b := twice_lt t1b
  have t2c := twice_lt t1c
  have t2d := twice_lt t1d
  have e1 : Sy22.twice (Sy22.twice (a ^^^ c)) = Sy22.twice (Sy22.twice a) ^^^ Sy22.twice (Sy22.twice c) := by rw [twice_xor ha hc, twice_xor t1a t1c]
  have e2 : Sy22.twice (Sy22.twice (b ^^^ d)) = Sy22.twice (Sy22.twice b) ^^^ Sy22.twice (Sy22.twice d) := by rw [twice_xor hb hd, twice_xor t1b t1d]
  rw [e1, e2]
  rw [(mul_by (xor256 ha (xor256 t2a t2c))).2.1, (mul_by (xor256 hb (xor256 t2b t2d))).2.2.1, (mul_by (xor256 hc (xor256 t2a t2c))).1, (mul_by (xor256 hd (xor256 t2b t2d))).1,
    (mul_by ha).2.2.2.2.2.2, (mul_by hb).2.2.2.2.1, (mul_by hc).2.2.2.2.2.1, (mul_by hd).2.2.2.1]
  rw [twice_xor ha (xor256 t2a t2c), twice_xor t2a t2c, twice_xor hb (xor256 t2b t2d), twice_xor t2b t2d]
  generalize Sy22.twice (Sy22.twice (Sy22.twice a)) = a3
  generalize Sy22.twice (Sy22.twice (Sy22.twice b)) = b3
  generalize Sy22.twice (Sy22.twice (Sy22.twice c)) = c3
  generalize Sy22.twice (Sy22.twice (Sy22.twice d)) = d3
  generalize Sy22.twice (Sy22.twice a) = a2
  generalize Sy22.twice (Sy22.twice b) = b2
  generalize Sy22.twice (Sy22.twice c) = c2
  generalize Sy22.twice (Sy22.twice d) = d2
  generalize Sy22.twice a = a1
  generalize Sy22.twice b = b1
  simp only [Nat.zero_xor, Nat.xor_assoc, Nat.xor_comm, xlc, xor_cancel, Nat.xor_self, Nat.xor_zero]
theorem flat4 {f : Nat → List Nat} (hf : ∀ i, (f i).length = 4) : ∀ (n i r : Nat), i < n → r < 4 → ((List.range n).flatMap f).getD (4 * i + r) 0 = (f i).getD r 0
  | 0, _, _, h, _ => absurd h (Nat.not_lt_zero _)
  | n + 1, i, r, h, hr => by
    have len : ((List.range n).flatMap f).length = 4 * n := by
      induction n with
      | zero => rfl
      | succ n ih => 
        rw [List.range_succ, List.flatMap_append, List.length_append]
        have e : ∀ m, ((List.range m).flatMap f).length = 4 * m := fun m => by
          induction m with
          | zero => rfl
          | succ m ih => rw [List.range_succ, List.flatMap_append, List.length_append, ih]; simp [hf]; omega
        rw [e]; simp [hf]; omega
    rw [List.range_succ, List.flatMap_append]
    by_cases h2 : i < n
    · rw [getD_app1 (by omega)]
      exact flat4 hf n i r h2 hr
    · have e : i = n := by omega
      subst e
      rw [getD_app2 (by omega), len]
      simp
theorem ease_at (xs : List Nat) {i r : Nat} (hi : i < 4) (hr : r < 4) : (easeM xs 4).getD (4 * i + r) 0 = (easeCol xs i).getD r 0 := flat4 (fun _ => rfl) 4 i r hi hr
theorem unmix_eq {xs : List Nat} (h : Bytes xs) : Sy22.unmix xs = mixBack xs := by
  unfold mixBack
  rw [← mix_eq (easeM_bytes h 4)]
  unfold Sy22.unmix Sy22.mix
  rw [mixBy_eq, mixBy_eq]
  refine flatMap_same fun i hi => ?_
  have hi : i < 4 := List.mem_range.mp hi
  rw [range4]
  have f0 := ease_at xs hi (show 0 < 4 by omega)
  have f1 := ease_at xs hi (show 1 < 4 by omega)
  have f2 := ease_at xs hi (show 2 < 4 by omega)
  have f3 := ease_at xs hi (show 3 < 4 by omega)
  simp only [easeCol, List.getD_cons_zero, List.getD_cons_succ, Nat.add_zero] at f0 f1 f2 f3
  simp only [List.map_cons, List.map_nil, List.getD_cons_zero, List.getD_cons_succ, Nat.reduceAdd, Nat.reduceMod, Nat.add_zero, f0, f1, f2, f3]
  have ha := h.at_ (4 * i)
  have hb := h.at_ (4 * i + 1)
  have hc := h.at_ (4 * i + 2)
  have hd := h.at_ (4 * i + 3)
  generalize xs.getD (4 * i) 0 = a at *
  generalize xs.getD (4 * i + 1) 0 = b at *
  generalize xs.getD (4 * i + 2) 0 = c at *
  generalize xs.getD (4 * i + 3) 0 = d at *
  rw [← unmix_byte ha hb hc hd, ← unmix_byte hb hc hd ha, ← unmix_byte hc hd ha hb, ← unmix_byte hd ha hb hc, Nat.xor_comm c a, Nat.xor_comm d b]
end
section
/-! ### round keys -/
def wStep (nk : Nat) (w : List (List Nat)) : List (List Nat) :=
  let i := w.length
  let t := w.getD (i - 1) []
  let u := if i % nk = 0 then Sy22.xor ((t.drop 1 ++ t.take 1).map Sy22.sub) [Sy22.power 2 (i / nk - 1), 0, 0, 0] else if 6 < nk ∧ i % nk = 4 then t.map Sy22.sub else t
  w ++ [Sy22.xor (w.getD (i - nk) []) u]
def wN (key : List Nat) : Nat → List (List Nat)
  | 0 => (List.range (key.length / 4)).map fun (i : Nat) => Sy22.part key (4 * i) 4
  | n + 1 => wStep (key.length / 4) (wN key n)
theorem words_eq (key : List Nat) : Sy22.words key = wN key (3 * (key.length / 4) + 28) := by
  have e : ∀ n, (List.range n).foldl (fun w (_ : Nat) => wStep (key.length / 4) w) ((List.range (key.length / 4)).map fun (i : Nat) => Sy22.part key (4 * i) 4) = wN key n := fun n => by
    induction n with
    | zero => rfl
    | succ n ih => rw [foldl_range, ih]; rfl
  exact e _
def WOk (w : List (List Nat)) : Prop := ∀ x ∈ w, x.length = 4 ∧ Bytes x
theorem WOk.getD {w : List (List Nat)} (h : WOk w) {i : Nat} (hi : i < w.length) : (w.getD i []).length = 4 ∧ Bytes (w.getD i []) := by
  rw [show w.getD i [] = w[i] by simp [hi]]; exact h _ (List.getElem_mem hi)
theorem flat_len {w : List (List Nat)} (h : WOk w) : w.flatten.length = 4 * w.length := by
  induction w with
  | nil => rfl
  | cons a w ih =>
    rw [List.flatten_cons, List.length_append, (h a List.mem_cons_self).1, ih fun x hx => h x (List.mem_cons_of_mem _ hx), List.length_cons]; omega
theorem flat_drop : ∀ {w : List (List Nat)} (j : Nat), WOk w → w.flatten.drop (4 * j) = (w.drop j).flatten
  | _, 0, _ => rfl
  | [], j + 1, _ => by simp
  | a :: w, j + 1, h => by
    have ha := (h a List.mem_cons_self).1
    rw [List.flatten_cons, List.drop_succ_cons, ← flat_drop j fun x hx => h x (List.mem_cons_of_mem _ hx), show 4 * (j + 1) = a.length + 4 * j by omega, List.drop_append]
    simp
theorem flat_get : ∀ {w : List (List Nat)} {j k : Nat}, WOk w → j < w.length → k < 4 → w.flatten.getD (4 * j + k) 0 = (w.getD j []).getD k 0
  | [], _, _, _, h, _ => absurd h (Nat.not_lt_zero _)
  | a :: w, 0, k, h, _, hk => by
    have ha := (h a List.mem_cons_self).1
    rw [List.flatten_cons, Nat.mul_zero, Nat.zero_add, getD_app1 (by omega)]; rfl
  | a :: w, j + 1, k, h, hj, hk => by
    have ha := (h a List.mem_cons_self).1
    rw [List.flatten_cons, getD_app2 (by omega), show 4 * (j + 1) + k - a.length = 4 * j + k by omega, flat_get (fun x hx => h x (List.mem_cons_of_mem _ hx)) (by simpa using hj) hk]; rfl
theorem flat_last {w : List (List Nat)} (h : WOk w) (h0 : 0 < w.length) : w.flatten.drop (4 * w.length - 4) = w.getD (w.length - 1) [] := by
  rw [show 4 * w.length - 4 = 4 * (w.length - 1) by omega, flat_drop _ h]
  rw [List.drop_eq_getElem_cons (by omega), List.drop_eq_nil_of_le (by omega)]
  simp [List.getD, List.getElem?_eq_getElem (show w.length - 1 < w.length by omega)]
theorem four {v : List Nat} (h : v.length = 4) : ∃ a b c d, v = [a, b, c, d] := by
  match v, h with
  | [a, b, c, d], _ => exact ⟨a, b, c, d, rfl⟩
theorem wStep_len (nk : Nat) (w : List (List Nat)) : (wStep nk w).length = w.length + 1 := by unfold wStep; simp
theorem wStep_ok {nk : Nat} {w : List (List Nat)} (h : WOk w) (h0 : 0 < nk) (h1 : nk ≤ w.length) : WOk (wStep nk w) := by
  intro x hx
  unfold wStep at hx
  rcases List.mem_append.mp hx with hx | hx
  · exact h x hx
  · rw [List.mem_singleton] at hx
    subst hx
    obtain ⟨l1, b1⟩ := h.getD (show w.length - 1 < w.length by omega)
    obtain ⟨l2, b2⟩ := h.getD (show w.length - nk < w.length by omega)
    have hu : (if w.length % nk = 0 then Sy22.xor (((w.getD (w.length - 1) []).drop 1 ++ (w.getD (w.length - 1) []).take 1).map Sy22.sub) [Sy22.power 2 (w.length / nk - 1), 0, 0, 0] else if 6 < nk ∧ w.length % nk = 4 then (w.getD (w.length - 1) []).map Sy22.sub else w.getD (w.length - 1) []).length = 4 ∧
        Bytes (if w.length % nk = 0 then Sy22.xor (((w.getD (w.length - 1) []).drop 1 ++ (w.getD (w.length - 1) []).take 1).map Sy22.sub) [Sy22.power 2 (w.length / nk - 1), 0, 0, 0] else if 6 < nk ∧ w.length % nk = 4 then (w.getD (w.length - 1) []).map Sy22.sub else w.getD (w.length - 1) []) := by
      split
      · refine ⟨?_, ((((b1.drop 1).app (b1.take 1)).map fun x hx => sub_lt hx)).xor fun x hx => ?_⟩
        · rw [xor_len, List.length_map, List.length_append, List.length_drop, List.length_take, l1]; rfl
        · simp only [List.mem_cons, List.not_mem_nil, or_false] at hx
          have := power_lt (show 2 < 256 by omega) (w.length / nk - 1)
          rcases hx with rfl | rfl | rfl | rfl <;> omega
      · split
        · exact ⟨by simpa using l1, b1.map fun x hx => sub_lt hx⟩
        · exact ⟨l1, b1⟩
    exact ⟨by rw [xor_len, l2, hu.1]; rfl, b2.xor hu.2⟩
structure KeyOk (key : List Nat) : Prop where
  len : key.length = 16 ∨ key.length = 24 ∨ key.length = 32
  bytes : Bytes key
theorem wN_len {key : List Nat} (n : Nat) : (wN key n).length = key.length / 4 + n := by
  induction n with
  | zero => simp [wN]
  | succ n ih => show (wStep _ _).length = _; rw [wStep_len, ih]; omega
theorem wN_ok {key : List Nat} (k : KeyOk key) (n : Nat) : WOk (wN key n) := by
  have := k.len
  induction n with
  | zero =>
    intro x hx
    obtain ⟨i, hi, rfl⟩ := List.mem_map.mp hx
    have hi := List.mem_range.mp hi
    exact ⟨part_len (by omega), part_bytes k.bytes _ _⟩
  | succ n ih =>
    refine wStep_ok ih (by omega) ?_
    rw [wN_len]; omega
theorem parts_flat (key : List Nat) : ∀ n, 4 * n ≤ key.length → ((List.range n).map fun (i : Nat) => Sy22.part key (4 * i) 4).flatten = key.take (4 * n)
  | 0, _ => by simp
  | n + 1, h => by
    rw [List.range_succ, List.map_append, List.flatten_append, parts_flat key n (by omega)]
    simp only [List.map_cons, List.map_nil, List.flatten_cons, List.flatten_nil, List.append_nil]
    unfold Sy22.part
    rw [show 4 * (n + 1) = 4 * n + 4 by omega, List.take_add]
theorem wN_zero {key : List Nat} (k : KeyOk key) : (wN key 0).flatten = key := by
  have := k.len
  show ((List.range (key.length / 4)).map fun (i : Nat) => Sy22.part key (4 * i) 4).flatten = key
  rw [parts_flat key _ (by omega)]
  exact List.take_of_length_le (by omega)
/-- the last word turned, substituted, or as it is -/
def wordA (t : List Nat) (c : Nat) : List Nat := let u := (t.drop 1 ++ t.take 1).map Sy22.sub; u.set 0 (u.getD 0 0 ^^^ c)
theorem new_word {v u : List Nat} (hv : v.length = 4) (hu : u.length = 4) : (List.range 4).map (fun k => u.getD k 0 ^^^ v.getD k 0) = Sy22.xor v u := by
  obtain ⟨a, b, c, d, rfl⟩ := four hv
  obtain ⟨e, f, g, h, rfl⟩ := four hu
  rw [range4]
  simp [Sy22.xor, Nat.xor_comm]
theorem wordA_eq {t : List Nat} (h : t.length = 4) (c : Nat) : wordA t c = Sy22.xor ((t.drop 1 ++ t.take 1).map Sy22.sub) [c, 0, 0, 0] := by
  obtain ⟨a, b, d, e, rfl⟩ := four h
  simp [wordA, Sy22.xor]
/-- what the program appends -/
def addW (e u : List Nat) (nk : Nat) : List Nat := (List.range 4).map fun k => u.getD k 0 ^^^ e.getD (e.length - 4 * nk + k) 0
theorem step_flat {nk : Nat} {w : List (List Nat)} (h : WOk w) (h0 : 0 < nk) (h1 : nk ≤ w.length) (hk : nk = 4 ∨ nk = 6 ∨ nk = 8) {c : Nat} (hc : c = Sy22.power 2 ((w.length - 1) / nk)) :
    (wStep nk w).flatten = w.flatten ++ addW w.flatten (if w.length % nk = 0 then wordA (w.getD (w.length - 1) []) c else if nk = 8 ∧ w.length % nk = 4 then (w.getD (w.length - 1) []).map Sy22.sub else w.getD (w.length - 1) []) nk := by
  obtain ⟨l1, b1⟩ := h.getD (show w.length - 1 < w.length by omega)
  obtain ⟨l2, b2⟩ := h.getD (show w.length - nk < w.length by omega)
  unfold wStep
  simp only [List.flatten_append, List.flatten_cons, List.flatten_nil, List.append_nil]
  congr 1
  have hu : (if w.length % nk = 0 then wordA (w.getD (w.length - 1) []) c else if nk = 8 ∧ w.length % nk = 4 then (w.getD (w.length - 1) []).map Sy22.sub else w.getD (w.length - 1) []) =
      (if w.length % nk = 0 then Sy22.xor (((w.getD (w.length - 1) []).drop 1 ++ (w.getD (w.length - 1) []).take 1).map Sy22.sub) [Sy22.power 2 (w.length / nk - 1), 0, 0, 0] else if 6 < nk ∧ w.length % nk = 4 then (w.getD (w.length - 1) []).map Sy22.sub else w.getD (w.length - 1) []) := by
    by_cases hm : w.length % nk = 0
    · rw [if_pos hm, if_pos hm, wordA_eq l1, hc]
      have e : (w.length - 1) / nk = w.length / nk - 1 := by
        rcases hk with rfl | rfl | rfl <;> omega
      rw [e]
    · rw [if_neg hm, if_neg hm]
      have : (nk = 8 ∧ w.length % nk = 4) ↔ (6 < nk ∧ w.length % nk = 4) := by
        constructor <;> (rintro ⟨h1, h2⟩; exact ⟨by omega, h2⟩)
      by_cases h8 : nk = 8 ∧ w.length % nk = 4
      · rw [if_pos h8, if_pos (this.mp h8)]
      · rw [if_neg h8, if_neg (fun z => h8 (this.mpr z))]
  rw [hu]
  generalize hU : (if w.length % nk = 0 then Sy22.xor (((w.getD (w.length - 1) []).drop 1 ++ (w.getD (w.length - 1) []).take 1).map Sy22.sub) [Sy22.power 2 (w.length / nk - 1), 0, 0, 0] else if 6 < nk ∧ w.length % nk = 4 then (w.getD (w.length - 1) []).map Sy22.sub else w.getD (w.length - 1) []) = u
  have lu : u.length = 4 := by
    subst hU
    split
    · rw [xor_len, List.length_map, List.length_append, List.length_drop, List.length_take, l1]; rfl
    · split
      · simpa using l1
      · exact l1
  rw [← new_word l2 lu]
  unfold addW
  refine List.map_congr_left fun k hk' => ?_
  have hk4 : k < 4 := List.mem_range.mp hk'
  rw [flat_len h, show 4 * w.length - 4 * nk + k = 4 * (w.length - nk) + k by omega, flat_get h (by omega) hk4]
theorem power_two (n : Nat) : Sy22.power 2 (n + 1) = Sy22.twice (Sy22.power 2 n) := (mul_by (power_lt (by omega) n)).2.1
def rks (key : List Nat) : List Nat := (Sy22.words key).flatten
theorem rks_len {key : List Nat} (k : KeyOk key) : (rks key).length = 4 * key.length + 112 := by
  have := k.len
  unfold rks
  rw [words_eq, flat_len (wN_ok k _), wN_len]; omega
theorem rks_bytes {key : List Nat} (k : KeyOk key) : Bytes (rks key) := by
  unfold rks
  rw [words_eq]
  exact Bytes.flat fun x hx => (wN_ok k _ x hx).2
end
section
theorem mixBack_len (xs : List Nat) : (mixBack xs).length = 16 := mixM_len _ 4
def turnedN (r : Nat) (rk : List Nat) (n : Nat) : List Nat := rk.drop (16 * r) ++ (List.range n).flatMap fun i => mixBack (Sy22.part rk (16 * (r - 1 - i)) 16)
def turned (r : Nat) (rk : List Nat) : List Nat := turnedN r rk (r - 1) ++ rk.take 16
theorem turnedN_len {r : Nat} {rk : List Nat} (h : rk.length = 16 * (r + 1)) : ∀ n, (turnedN r rk n).length = 16 + 16 * n
  | 0 => by unfold turnedN; simp; omega
  | n + 1 => by
    have := turnedN_len h n
    unfold turnedN at this ⊢
    rw [List.range_succ, List.flatMap_append, ← List.append_assoc, List.length_append, this]
    simp [mixBack_len]; omega
theorem turned_len {r : Nat} {rk : List Nat} (h : rk.length = 16 * (r + 1)) (h0 : 0 < r) : (turned r rk).length = 16 * (r + 1) := by
  unfold turned
  rw [List.length_append, turnedN_len h, List.length_take]; omega
theorem flat_take {w : List (List Nat)} (h : WOk w) : ∀ j, w.flatten.take (4 * j) = (w.take j).flatten := by
  induction w with
  | nil => intro j; simp
  | cons a w ih =>
    intro j
    cases j with
    | zero => simp
    | succ j =>
      have ha := (h a List.mem_cons_self).1
      rw [List.flatten_cons, List.take_succ_cons, List.flatten_cons, ← ih (fun x hx => h x (List.mem_cons_of_mem _ hx)) j, show 4 * (j + 1) = a.length + 4 * j by omega, List.take_length_add_append]
theorem WOk.drop {w : List (List Nat)} (h : WOk w) (n : Nat) : WOk (w.drop n) := fun x hx => h x (List.mem_of_mem_drop hx)
theorem word4 {w : List (List Nat)} (h : WOk w) (r : Nat) : ((w.drop (4 * r)).take 4).flatten = Sy22.part w.flatten (16 * r) 16 := by
  unfold Sy22.part
  rw [show 16 * r = 4 * (4 * r) by omega, flat_drop _ h, show 16 = 4 * 4 by rfl, flat_take (h.drop _)]
theorem rounds_len {key : List Nat} (k : KeyOk key) : (rks key).length = 16 * (Sy22.rounds key + 1) ∧ (Sy22.rounds key = 10 ∨ Sy22.rounds key = 12 ∨ Sy22.rounds key = 14) := by
  have := k.len
  have h := rks_len k
  unfold Sy22.rounds
  omega
theorem keys_at {key : List Nat} (k : KeyOk key) : Sy22.keys key = (List.range (Sy22.rounds key + 1)).map fun (r : Nat) => Sy22.part (rks key) (16 * r) 16 := by
  unfold Sy22.keys
  dsimp only
  refine List.map_congr_left fun r _ => ?_
  have wok : WOk (Sy22.words key) := by rw [words_eq]; exact wN_ok k _
  exact word4 wok r
theorem keys_flat {key : List Nat} (k : KeyOk key) : (Sy22.keys key).flatten = rks key := by
  have h := (rounds_len k).1
  rw [keys_at k, parts_flatM 16 _ _ (by omega)]
  exact List.take_of_length_le (by omega)
theorem keys_getD {key : List Nat} (k : KeyOk key) {j : Nat} (hj : j ≤ Sy22.rounds key) : (Sy22.keys key).getD j [] = Sy22.part (rks key) (16 * j) 16 := by
  rw [keys_at k]
  simp [List.getD, List.getElem?_map, List.getElem?_range (show j < Sy22.rounds key + 1 by omega)]
theorem back_flat {key : List Nat} (k : KeyOk key) : (Sy22.backKeys key).flatten = turned (Sy22.rounds key) (rks key) := by
  obtain ⟨hl, hR⟩ := rounds_len k
  have hb := rks_bytes k
  unfold Sy22.backKeys
  dsimp only
  generalize hn : Sy22.rounds key = n at *
  obtain ⟨m, rfl⟩ : ∃ m, n = m + 1 := ⟨n - 1, by omega⟩
  rw [List.range_succ, List.map_append, List.flatten_append]
  have e1 : ([m + 1].map fun (r : Nat) => if r = 0 ∨ r = m + 1 then (Sy22.keys key).getD (m + 1 - r) [] else Sy22.unmix ((Sy22.keys key).getD (m + 1 - r) [])).flatten = (rks key).take 16 := by
    simp only [List.map_cons, List.map_nil, List.flatten_cons, List.flatten_nil, List.append_nil, Nat.sub_self]
    rw [if_pos (by simp), keys_getD k (by omega)]
    unfold Sy22.part
    simp
  rw [e1]
  unfold turned turnedN
  congr 1
  rw [List.range_succ_eq_map, List.map_cons, List.flatten_cons]
  congr 1
  · rw [if_pos (.inl rfl), keys_getD k (by omega)]
    unfold Sy22.part
    rw [Nat.sub_zero]
    exact List.take_of_length_le (by rw [List.length_drop]; omega)
  · rw [List.map_map, ← List.flatMap_def, show m + 1 - 1 = m by omega]
    refine flatMap_same fun i hi => ?_
    have hi : i < m := List.mem_range.mp hi
    show (if i + 1 = 0 ∨ i + 1 = m + 1 then _ else Sy22.unmix ((Sy22.keys key).getD (m + 1 - (i + 1)) [])) = _
    rw [if_neg (by omega), keys_getD k (by omega), show m + 1 - (i + 1) = m - i by omega]
    exact unmix_eq (part_bytes hb _ _)
theorem keys_eq (n : Int) (key : List Int) : PySy22.keys n key = ans (Sy22.does (.keys n.toNat (Sy22Neutral.nats key))).v (Sy22.does (.keys n.toNat (Sy22Neutral.nats key))).rows := by
  rw [← f_ans]; rfl
theorem key_of {n : Int} {key : List Int} (hw : Sy22Neutral.word n = true) (hj : Sy22Neutral.just key (Sy22Neutral.keySize n) = true) :
    (¬ (n = 16 ∨ n = 24 ∨ n = 32) ∧ Sy22.lengthOk n.toNat = false) ∨ ((n = 16 ∨ n = 24 ∨ n = 32) ∧ Sy22.lengthOk n.toNat = true ∧ KeyOk (Sy22Neutral.nats key)) := by
  have h0 := word_of hw
  obtain ⟨h1, h2⟩ := just_of hj
  by_cases h : n = 16 ∨ n = 24 ∨ n = 32
  · refine .inr ⟨h, ?_, ?_, nats_bytes h1⟩
    · rcases h with rfl | rfl | rfl <;> rfl
    · unfold Sy22Neutral.keySize at h2
      rw [if_pos h] at h2
      rw [nats_len, h2]
      omega
  · refine .inl ⟨h, ?_⟩
    cases e : Sy22.lengthOk n.toNat with
    | false => rfl
    | true =>
      exfalso
      unfold Sy22.lengthOk at e
      simp only [Bool.or_eq_true, beq_iff_eq] at e
      omega
end
section
/-! ### blocks -/
structure Blk (s : List Nat) : Prop where
  len : s.length = 16
  bytes : Bytes s
def addK (s rk : List Nat) (a : Nat) : List Nat := (List.range 16).map fun i => s.getD i 0 ^^^ rk.getD (a + i) 0
theorem xor_getD {a b : List Nat} {i : Nat} (ha : i < a.length) (hb : i < b.length) : (Sy22.xor a b).getD i 0 = a.getD i 0 ^^^ b.getD i 0 := by
  simp [Sy22.xor, List.getD, List.getElem?_zipWith, List.getElem?_eq_getElem ha, List.getElem?_eq_getElem hb]
theorem part_getD {b : List Nat} {a n i : Nat} (hi : i < n) : (Sy22.part b a n).getD i 0 = b.getD (a + i) 0 := by
  simp [Sy22.part, List.getD, List.getElem?_take, hi]
theorem list_ext16 {a b : List Nat} (ha : a.length = 16) (hb : b.length = 16) (h : ∀ i, i < 16 → a.getD i 0 = b.getD i 0) : a = b := by
  refine List.ext_getElem (by omega) fun i h1 h2 => ?_
  have := h i (by omega)
  simpa [List.getD, List.getElem?_eq_getElem h1, List.getElem?_eq_getElem h2] using this
theorem range_getD (f : Nat → Nat) {n i : Nat} (h : i < n) : ((List.range n).map f).getD i 0 = f i := by
  simp [List.getD, List.getElem?_map, List.getElem?_range h]
theorem addK_eq {s rk : List Nat} {a : Nat} (hs : s.length = 16) (h : a + 16 ≤ rk.length) : addK s rk a = Sy22.xor s (Sy22.part rk a 16) := by
  have hp := part_len (key := rk) (i := a) (n := 16) h
  refine list_ext16 (by simp [addK]) (by rw [xor_len, hs, hp]; rfl) fun i hi => ?_
  rw [xor_getD (by omega) (by omega), part_getD hi]
  exact range_getD _ hi
def SHIFTL : List Nat := [0, 5, 10, 15, 4, 9, 14, 3, 8, 13, 2, 7, 12, 1, 6, 11]
def SHIFTB : List Nat := [0, 13, 10, 7, 4, 1, 14, 11, 8, 5, 2, 15, 12, 9, 6, 3]
theorem map_getD {s : List Nat} {f : Nat → Nat} {i : Nat} (h : i < s.length) : (s.map f).getD i 0 = f (s.getD i 0) := by
  simp [List.getD, List.getElem?_eq_getElem h]
def subSh (s : List Nat) : List Nat := (List.range 16).map fun i => Sy22.sub (s.getD (SHIFTL.getD i 0) 0)
theorem subSh_eq {s : List Nat} (h : s.length = 16) : Sy22.shift (s.map Sy22.sub) = subSh s := by
  unfold Sy22.shift subSh
  refine List.map_congr_left fun i hi => ?_
  have hi : i < 16 := List.mem_range.mp hi
  have e : ∀ i : Fin 16, i.1 % 4 + 4 * ((i.1 / 4 + i.1 % 4) % 4) = SHIFTL.getD i.1 0 := by decide
  rw [e ⟨i, hi⟩]
  have l : ∀ i : Fin 16, SHIFTL.getD i.1 0 < 16 := by decide
  exact map_getD (by rw [h]; exact l ⟨i, hi⟩)
theorem subSh_blk {s : List Nat} (h : Blk s) : Blk (subSh s) := by
  refine ⟨by simp [subSh], fun x hx => ?_⟩
  obtain ⟨i, _, rfl⟩ := List.mem_map.mp hx
  exact sub_lt (h.bytes.at_ _)
theorem xor_blk {a b : List Nat} (ha : Blk a) (hb : Blk b) : Blk (Sy22.xor a b) := ⟨by rw [xor_len, ha.len, hb.len]; rfl, ha.bytes.xor hb.bytes⟩
theorem mix_blk {a : List Nat} (ha : Blk a) : Blk (mixM a 4) := ⟨mixM_len a 4, mixM_bytes ha.bytes 4⟩
theorem mixBack_blk {a : List Nat} (ha : Blk a) : Blk (mixBack a) := ⟨mixBack_len a, mixM_bytes (easeM_bytes ha.bytes 4) 4⟩
theorem part_blk {rk : List Nat} {a : Nat} (hb : Bytes rk) (h : a + 16 ≤ rk.length) : Blk (Sy22.part rk a 16) := ⟨part_len h, part_bytes hb _ _⟩
/-- a block after so many rounds, by round keys -/
def encN (rk s : List Nat) : Nat → List Nat
  | 0 => Sy22.xor s (Sy22.part rk 0 16)
  | r + 1 => Sy22.xor (mixM (subSh (encN rk s r)) 4) (Sy22.part rk (16 * (r + 1)) 16)
theorem encN_blk {rk s : List Nat} (hs : Blk s) (hb : Bytes rk) : ∀ n, 16 * (n + 1) ≤ rk.length → Blk (encN rk s n)
  | 0, h => xor_blk hs (part_blk hb (by omega))
  | n + 1, h => xor_blk (mix_blk (subSh_blk (encN_blk hs hb n (by omega)))) (part_blk hb (by omega))
theorem foldl_step {α : Type} (f : α → Nat → α) (a : α) (n : Nat) : (List.range (n + 1)).foldl f a = f ((List.range n).foldl f a) n := by
  rw [List.range_succ, List.foldl_append]; rfl
theorem block_eq {key s : List Nat} (k : KeyOk key) (hs : Blk s) : Sy22.block key s = Sy22.xor (subSh (encN (rks key) s (Sy22.rounds key - 1))) (Sy22.part (rks key) (16 * Sy22.rounds key) 16) := by
  obtain ⟨hl, hR⟩ := rounds_len k
  have hb := rks_bytes k
  have e : ∀ n, n < Sy22.rounds key → (List.range n).foldl (fun (s : List Nat) (r : Nat) => Sy22.xor (Sy22.mix (Sy22.shift (s.map Sy22.sub))) ((Sy22.keys key).getD (r + 1) [])) (Sy22.xor s ((Sy22.keys key).getD 0 [])) = encN (rks key) s n := by
    intro n
    induction n with
    | zero => intro _; show Sy22.xor s _ = _; rw [keys_getD k (by omega)]; rfl
    | succ n ih =>
      intro hn
      have eb := encN_blk (rk := rks key) hs hb n (by omega)
      rw [foldl_step, ih (by omega), subSh_eq eb.len, mix_eq (subSh_blk eb).bytes, keys_getD k (by omega)]
      rfl
  unfold Sy22.block
  dsimp only
  have eb := encN_blk (rk := rks key) hs hb (Sy22.rounds key - 1) (by omega)
  rw [e _ (by omega), subSh_eq eb.len, keys_getD k (by omega)]
theorem block_blk {key s : List Nat} (k : KeyOk key) (hs : Blk s) : Blk (Sy22.block key s) := by
  obtain ⟨hl, hR⟩ := rounds_len k
  have hb := rks_bytes k
  rw [block_eq k hs]
  exact xor_blk (subSh_blk (encN_blk hs hb _ (by omega))) (part_blk hb (by omega))
/-! the way back -/
end
section
/-! ### words of 32 bits -/
theorem mask_eq (x : Nat) : x &&& 4294967295 = x % 2 ^ 32 := Nat.and_two_pow_sub_one_eq_mod x 32
theorem W32_eq : Sy22.W32 = 2 ^ 32 := rfl
theorem and_or_mod (a b n : Nat) : (a ||| b) % 2 ^ n = (a % 2 ^ n) ||| (b % 2 ^ n) := by
  refine Nat.eq_of_testBit_eq fun i => ?_
  simp only [Nat.testBit_mod_two_pow, Nat.testBit_or]
  cases decide (i < n) <;> simp
theorem xor_mod (a b n : Nat) : (a ^^^ b) % 2 ^ n = (a % 2 ^ n) ^^^ (b % 2 ^ n) := by
  refine Nat.eq_of_testBit_eq fun i => ?_
  simp only [Nat.testBit_mod_two_pow, Nat.testBit_xor]
  cases decide (i < n) <;> simp
theorem left_eq {x k : Nat} (h : x < 2 ^ 32) : (x * 2 ^ k ||| x / 2 ^ (32 - k)) &&& 4294967295 = Sy22.left x k := by
  rw [mask_eq, and_or_mod, Nat.mod_eq_of_lt (Nat.lt_of_le_of_lt (Nat.div_le_self _ _) h)]
  rfl
theorem left_lt {x k : Nat} (h : x < 2 ^ 32) : Sy22.left x k < 2 ^ 32 := by
  rw [← left_eq h, mask_eq]; exact Nat.mod_lt _ (by decide)
theorem bit_lt {x n i : Nat} (h : x < 2 ^ n) (hi : n ≤ i) : x.testBit i = false := Nat.testBit_lt_two_pow (Nat.lt_of_lt_of_le h (Nat.pow_le_pow_right (by decide) hi))
theorem twice_bit {x : Nat} (h : x < 2 ^ 32) (i : Nat) : (x * 2 ^ 32 ||| x).testBit i = if i < 32 then x.testBit i else x.testBit (i - 32) := by
  rw [Nat.testBit_or, Nat.testBit_mul_two_pow]
  by_cases hi : i < 32
  · rw [if_pos hi]; simp [Nat.not_le.mpr hi]
  · rw [if_neg hi, bit_lt h (i := i) (by omega)]; simp [Nat.not_lt.mp hi]
theorem turned_eq {x k : Nat} (h : x < 2 ^ 32) (hk : k < 32) : (x * 2 ^ 32 ||| x) / 2 ^ k % 2 ^ 32 = Sy22.right x k := by
  refine Nat.eq_of_testBit_eq fun i => ?_
  unfold Sy22.right
  rw [Nat.testBit_mod_two_pow, Nat.testBit_div_two_pow, twice_bit h, Nat.testBit_or, Nat.testBit_div_two_pow, W32_eq, Nat.testBit_mod_two_pow, Nat.testBit_mul_two_pow]
  by_cases hi : i < 32
  · by_cases h2 : k + i < 32
    · have h3 : ¬ 32 - k ≤ i := by omega
      simp [hi, h2, h3, Nat.add_comm]
    · have h3 : 32 - k ≤ i := by omega
      have e : k + i - 32 = i - (32 - k) := by omega
      rw [if_neg (by omega), bit_lt h (i := i + k) (by omega), show i + k - 32 = i - (32 - k) by omega]
      simp [hi, h3]
  · rw [bit_lt h (i := i + k) (by omega)]
    simp [hi]
theorem thrice_eq {x a b c : Nat} (h : x < 2 ^ 32) (ha : a < 32) (hb : b < 32) (hc : c < 32) : ((x * 2 ^ 32 ||| x) / 2 ^ a ^^^ (x * 2 ^ 32 ||| x) / 2 ^ b ^^^ (x * 2 ^ 32 ||| x) / 2 ^ c) &&& 4294967295 = Sy22.right x a ^^^ (Sy22.right x b ^^^ Sy22.right x c) := by
  rw [mask_eq, xor_mod, xor_mod, turned_eq h ha, turned_eq h hb, turned_eq h hc, Nat.xor_assoc]
theorem shift_eq {x a b c : Nat} (h : x < 2 ^ 32) (ha : a < 32) (hb : b < 32) : ((x * 2 ^ 32 ||| x) / 2 ^ a ^^^ (x * 2 ^ 32 ||| x) / 2 ^ b ^^^ x / 2 ^ c) &&& 4294967295 = Sy22.right x a ^^^ (Sy22.right x b ^^^ x / 2 ^ c) := by
  rw [mask_eq, xor_mod, xor_mod, turned_eq h ha, turned_eq h hb, Nat.mod_eq_of_lt (Nat.lt_of_le_of_lt (Nat.div_le_self _ _) h), Nat.xor_assoc]
theorem other_bit {x : Nat} (h : x < 2 ^ 32) (i : Nat) : (Sy22.other x).testBit i = (decide (i < 32) && !x.testBit i) := by
  unfold Sy22.other
  rw [W32_eq, show 2 ^ 32 - 1 - x = 2 ^ 32 - (x + 1) by omega, Nat.testBit_two_pow_sub_succ h]
theorem ch2_eq {e f g : Nat} (he : e < 2 ^ 32) (hg : g < 2 ^ 32) : g ^^^ (e &&& (f ^^^ g)) = (e &&& f) ^^^ (Sy22.other e &&& g) := by
  refine Nat.eq_of_testBit_eq fun i => ?_
  simp only [Nat.testBit_xor, Nat.testBit_and, other_bit he]
  by_cases hi : i < 32
  · simp only [hi, decide_true, Bool.true_and]
    cases e.testBit i <;> cases f.testBit i <;> cases g.testBit i <;> rfl
  · rw [bit_lt hg (i := i) (by omega), bit_lt he (i := i) (by omega)]
    simp
theorem ch1_eq {b c d : Nat} (hb : b < 2 ^ 32) (hd : d < 2 ^ 32) : d ^^^ (b &&& (c ^^^ d)) = (b &&& c) ||| (Sy22.other b &&& d) := by
  refine Nat.eq_of_testBit_eq fun i => ?_
  simp only [Nat.testBit_xor, Nat.testBit_and, Nat.testBit_or, other_bit hb]
  by_cases hi : i < 32
  · simp only [hi, decide_true, Bool.true_and]
    cases b.testBit i <;> cases c.testBit i <;> cases d.testBit i <;> rfl
  · rw [bit_lt hd (i := i) (by omega), bit_lt hb (i := i) (by omega)]
    simp
theorem maj2_eq (a b c : Nat) : (a &&& b) ||| (c &&& (a ||| b)) = (a &&& b) ^^^ ((a &&& c) ^^^ (b &&& c)) := by
  refine Nat.eq_of_testBit_eq fun i => ?_
  simp only [Nat.testBit_xor, Nat.testBit_and, Nat.testBit_or]
  cases a.testBit i <;> cases b.testBit i <;> cases c.testBit i <;> rfl
theorem maj1_eq (b c d : Nat) : (b &&& c) ||| (d &&& (b ||| c)) = (b &&& c) ||| ((b &&& d) ||| (c &&& d)) := by
  refine Nat.eq_of_testBit_eq fun i => ?_
  simp only [Nat.testBit_and, Nat.testBit_or]
  cases b.testBit i <;> cases c.testBit i <;> cases d.testBit i <;> rfl
/-! ### numbers as bytes -/
theorem or_add {n b : Nat} (h : b < 256) : n * 2 ^ 8 ||| b = 256 * n + b := by
  rw [Nat.mul_comm, ← Nat.two_pow_add_eq_or_of_lt (i := 8) h]
theorem big_eq (k n : Nat) : (List.range k).map (fun i => n / 2 ^ (8 * (k - 1 - i)) &&& 255) = Sy22.big k n := by
  unfold Sy22.big Sy22.little
  refine List.ext_getElem (by simp) fun i h1 h2 => ?_
  have hi : i < k := by simpa using h1
  simp only [List.getElem_map, List.getElem_range, List.getElem_reverse, List.length_map, List.length_range]
  rw [show (255 : Nat) = 2 ^ 8 - 1 by rfl, Nat.and_two_pow_sub_one_eq_mod, Nat.pow_mul]
theorem big_len (k n : Nat) : (Sy22.big k n).length = k := by unfold Sy22.big Sy22.little; simp
theorem big_bytes (k n : Nat) : Bytes (Sy22.big k n) := fun x hx => by
  unfold Sy22.big Sy22.little at hx
  rw [List.mem_reverse] at hx
  obtain ⟨i, _, rfl⟩ := List.mem_map.mp hx
  exact Nat.mod_lt _ (by decide)
theorem bigOf_snoc (b : List Nat) (x : Nat) : Sy22.bigOf (b ++ [x]) = 256 * Sy22.bigOf b + x := by unfold Sy22.bigOf; rw [List.foldl_append]; rfl
theorem bigOf_go : ∀ (b : List Nat) (n m : Nat), Bytes b → n < 256 ^ m → b.foldl (fun (n x : Nat) => 256 * n + x) n < 256 ^ (m + b.length)
  | [], n, m, _, h => h
  | x :: b, n, m, hb, h => by
    have h2 := hb x List.mem_cons_self
    have := bigOf_go b (256 * n + x) (m + 1) (fun y hy => hb y (List.mem_cons_of_mem _ hy)) (by rw [Nat.pow_succ]; omega)
    rw [List.length_cons, show m + (b.length + 1) = m + 1 + b.length by omega]
    exact this
theorem bigOf_lt {b : List Nat} (h : Bytes b) : Sy22.bigOf b < 256 ^ b.length := by
  have := bigOf_go b 0 0 h (by decide)
  rwa [Nat.zero_add] at this
/-! ### one block -/
def Ws (s : List Nat) : Prop := ∀ x ∈ s, x < 2 ^ 32
theorem Ws.at_ {s : List Nat} (h : Ws s) (i : Nat) : s.getD i 0 < 2 ^ 32 := by
  by_cases hi : i < s.length
  · rw [show s.getD i 0 = s[i] by simp [hi]]; exact h _ (List.getElem_mem hi)
  · rw [show s.getD i 0 = 0 by simp [hi]]; decide
theorem Ws.snoc {s : List Nat} {x : Nat} (h : Ws s) (hx : x < 2 ^ 32) : Ws (s ++ [x]) := fun y hy => (List.mem_append.mp hy).elim (h y) fun e => by rw [List.mem_singleton] at e; subst e; exact hx
def sp2 (w : List Nat) : List Nat := let i := w.length
  let x := w.getD (i - 15) 0
  let y := w.getD (i - 2) 0
  w ++ [((Sy22.right y 17 ^^^ (Sy22.right y 19 ^^^ (y / 2 ^ 10))) + w.getD (i - 7) 0 + (Sy22.right x 7 ^^^ (Sy22.right x 18 ^^^ (x / 2 ^ 3))) + w.getD (i - 16) 0) % Sy22.W32]
def sp1 (w : List Nat) : List Nat := let i := w.length; w ++ [Sy22.left (w.getD (i - 3) 0 ^^^ (w.getD (i - 8) 0 ^^^ (w.getD (i - 14) 0 ^^^ w.getD (i - 16) 0))) 1]
def it {α : Type} (f : α → α) (a : α) : Nat → α
  | 0 => a
  | n + 1 => f (it f a n)
theorem it_fold {α : Type} (f : α → α) (a : α) : ∀ n, (List.range n).foldl (fun x (_ : Nat) => f x) a = it f a n
  | 0 => rfl
  | n + 1 => by rw [foldl_range, it_fold f a n]; rfl
theorem more2_eq (w : List Nat) : Sy22.more2 w = it sp2 w 48 := it_fold sp2 w 48
theorem more1_eq (w : List Nat) : Sy22.more1 w = it sp1 w 64 := it_fold sp1 w 64
theorem sp2_ws {w : List Nat} (h : Ws w) : Ws (sp2 w) := h.snoc (Nat.mod_lt _ (by decide))
theorem xor32 {a b : Nat} (h : a < 2 ^ 32) (h' : b < 2 ^ 32) : a ^^^ b < 2 ^ 32 := Nat.xor_lt_two_pow h h'
theorem sp1_ws {w : List Nat} (h : Ws w) : Ws (sp1 w) := h.snoc (left_lt (xor32 (h.at_ _) (xor32 (h.at_ _) (xor32 (h.at_ _) (h.at_ _)))))
theorem it_len2 (w : List Nat) : ∀ n, (it sp2 w n).length = w.length + n
  | 0 => rfl
  | n + 1 => by
    have e := it_len2 w n
    show (sp2 (it sp2 w n)).length = _
    generalize it sp2 w n = z at *
    unfold sp2
    rw [List.length_append, e]; rfl
theorem it_len1 (w : List Nat) : ∀ n, (it sp1 w n).length = w.length + n
  | 0 => rfl
  | n + 1 => by
    have e := it_len1 w n
    show (sp1 (it sp1 w n)).length = _
    generalize it sp1 w n = z at *
    unfold sp1
    rw [List.length_append, e]; rfl
theorem it_ws2 {w : List Nat} (h : Ws w) : ∀ n, Ws (it sp2 w n)
  | 0 => h
  | n + 1 => sp2_ws (it_ws2 h n)
theorem it_ws1 {w : List Nat} (h : Ws w) : ∀ n, Ws (it sp1 w n)
  | 0 => h
  | n + 1 => sp1_ws (it_ws1 h n)
def K2 : List Nat := [1116352408, 1899447441, 3049323471, 3921009573, 961987163, 1508970993, 2453635748, 2870763221, 3624381080, 310598401, 607225278, 1426881987, 1925078388, 2162078206, 2614888103, 3248222580, 3835390401, 4022224774, 264347078, 604807628, 770255983, 1249150122, 1555081692, 1996064986, 2554220882, 2821834349, 2952996808, 3210313671, 3336571891, 3584528711, 113926993, 338241895, 666307205, 773529912, 1294757372, 1396182291, 1695183700, 1986661051, 2177026350, 2456956037, 2730485921, 2820302411, 3259730800, 3345764771, 3516065817, 3600352804, 4094571909, 275423344, 430227734, 506948616, 659060556, 883997877, 958139571, 1322822218, 1537002063, 1747873779, 1955562222, 2024104815, 2227730452, 2361852424, 2428436474, 2756734187, 3204031479, 3329325298]
theorem cubes_eq : Sy22.cubes = K2 := by decide +kernel
def I2 : List Nat := [1779033703, 3144134277, 1013904242, 2773480762, 1359893119, 2600822924, 528734635, 1541459225]
theorem squares_eq : Sy22.squares = I2 := by decide +kernel
def K1 : List Nat := [1518500249, 1859775393, 2400959708, 3395469782]
theorem fours_eq : Sy22.fours = K1 := by decide +kernel
def I1 : List Nat := [1732584193, 4023233417, 2562383102, 271733878, 3285377520]
def blk (kind : Nat) (s : List Nat) (b : List Nat) : List Nat := if kind = 1 then Sy22.block1 s b else Sy22.block2 s b
def start (kind : Nat) : List Nat := if kind = 1 then I1 else I2
def size (kind : Nat) : Nat := if kind = 1 then 5 else 8
def fold (kind : Nat) (s : List Nat) (b : List Nat) : List Nat := (Sy22.pieces 64 b).foldl (blk kind) s
theorem sum_eq {kind : Nat} (h : kind = 1 ∨ kind = 2) (b : List Nat) : Sy22.sum kind b = (fold kind (start kind) (Sy22.closed b)).flatMap (Sy22.big 4) := by
  unfold Sy22.sum fold start blk
  rcases h with rfl | rfl
  · rfl
  · show Sy22.sum2 b = _
    unfold Sy22.sum2
    rw [squares_eq]
    rfl
theorem pieces_app {k : Nat} (hk : 0 < k) (a b : List Nat) (h : a.length % k = 0) : Sy22.pieces k (a ++ b) = Sy22.pieces k a ++ Sy22.pieces k b := by
  unfold Sy22.pieces
  obtain ⟨m, hm⟩ : ∃ m, a.length = k * m := ⟨a.length / k, by rw [Nat.mul_div_cancel' (Nat.dvd_of_mod_eq_zero h)]⟩
  have e : (a ++ b).length / k = m + b.length / k := by rw [List.length_append, hm, Nat.mul_add_div hk]
  have e2 : a.length / k = m := by rw [hm, Nat.mul_div_cancel_left _ hk]
  rw [e, e2, List.range_add, List.map_append, List.map_map]
  congr 1
  · refine List.map_congr_left fun i hi => ?_
    have hi : i < m := List.mem_range.mp hi
    have : k * i + k ≤ k * m := by rw [← Nat.mul_succ]; exact Nat.mul_le_mul_left k hi
    unfold Sy22.part
    rw [List.drop_append_of_le_length (by omega), List.take_append_of_le_length (by rw [List.length_drop]; omega)]
  · refine List.map_congr_left fun i hi => ?_
    unfold Sy22.part
    show ((a ++ b).drop (k * (m + i))).take k = _
    rw [show k * (m + i) = a.length + k * i by rw [hm, Nat.mul_add], List.drop_append, Nat.add_sub_cancel_left, List.drop_eq_nil_of_le (by omega), List.nil_append]
theorem fold_app {kind : Nat} (s a b : List Nat) (h : a.length % 64 = 0) : fold kind s (a ++ b) = fold kind (fold kind s a) b := by
  unfold fold
  rw [pieces_app (by decide) a b h, List.foldl_append]
theorem fold_snoc {kind : Nat} (s b : List Nat) (n : Nat) (h : 64 * (n + 1) ≤ b.length) : fold kind s (b.take (64 * (n + 1))) = blk kind (fold kind s (b.take (64 * n))) (Sy22.part b (64 * n) 64) := by
  have e : b.take (64 * (n + 1)) = b.take (64 * n) ++ Sy22.part b (64 * n) 64 := by rw [Nat.mul_add, Nat.mul_one, List.take_add]; rfl
  have hl : (Sy22.part b (64 * n) 64).length = 64 := part_len (by omega)
  rw [e, fold_app _ _ _ (by rw [List.length_take, Nat.min_eq_left (by omega)]; omega)]
  show (Sy22.pieces 64 _).foldl _ _ = _
  have : Sy22.pieces 64 (Sy22.part b (64 * n) 64) = [Sy22.part b (64 * n) 64] := by
    unfold Sy22.pieces
    rw [hl]
    show [Sy22.part _ (64 * 0) 64] = _
    rw [Nat.mul_zero]
    show [(List.drop 0 _).take 64] = _
    rw [List.drop_zero, List.take_of_length_le (by omega)]
  rw [this]
  rfl
end
section
def cur2 (W s : List Nat) (n : Nat) : List Nat := (List.range n).foldl (Sy22.step2 W) s
def cur1 (W s : List Nat) (n : Nat) : List Nat := (List.range n).foldl (Sy22.step1 W) s
theorem cur2_succ (W s : List Nat) (n : Nat) : cur2 W s (n + 1) = Sy22.step2 W (cur2 W s n) n := by unfold cur2; rw [List.range_succ, List.foldl_append]; rfl
theorem cur1_succ (W s : List Nat) (n : Nat) : cur1 W s (n + 1) = Sy22.step1 W (cur1 W s n) n := by unfold cur1; rw [List.range_succ, List.foldl_append]; rfl
theorem eight {v : List Nat} (h : v.length = 8) : v = [v.getD 0 0, v.getD 1 0, v.getD 2 0, v.getD 3 0, v.getD 4 0, v.getD 5 0, v.getD 6 0, v.getD 7 0] := by
  match v, h with
  | [a, b, c, d, e, f, g, i], _ => rfl
theorem five {v : List Nat} (h : v.length = 5) : v = [v.getD 0 0, v.getD 1 0, v.getD 2 0, v.getD 3 0, v.getD 4 0] := by
  match v, h with
  | [a, b, c, d, e], _ => rfl
theorem ws8 {a b c d e f g h : Nat} (ha : a < 2 ^ 32) (hb : b < 2 ^ 32) (hc : c < 2 ^ 32) (hd : d < 2 ^ 32) (he : e < 2 ^ 32) (hf : f < 2 ^ 32) (hg : g < 2 ^ 32) (hh : h < 2 ^ 32) : Ws [a, b, c, d, e, f, g, h] := fun x hx => by
  simp only [List.mem_cons, List.not_mem_nil, or_false] at hx
  rcases hx with rfl | rfl | rfl | rfl | rfl | rfl | rfl | rfl <;> assumption
theorem ws5 {a b c d e : Nat} (ha : a < 2 ^ 32) (hb : b < 2 ^ 32) (hc : c < 2 ^ 32) (hd : d < 2 ^ 32) (he : e < 2 ^ 32) : Ws [a, b, c, d, e] := fun x hx => by
  simp only [List.mem_cons, List.not_mem_nil, or_false] at hx
  rcases hx with rfl | rfl | rfl | rfl | rfl <;> assumption
theorem m32 (x : Nat) : x % Sy22.W32 < 2 ^ 32 := Nat.mod_lt _ (by decide)
theorem step2_ok {W s : List Nat} {t : Nat} (h : Ws s) : (Sy22.step2 W s t).length = 8 ∧ Ws (Sy22.step2 W s t) := by
  unfold Sy22.step2
  exact ⟨rfl, ws8 (m32 _) (h.at_ 0) (h.at_ 1) (h.at_ 2) (m32 _) (h.at_ 4) (h.at_ 5) (h.at_ 6)⟩
theorem step1_ok {W s : List Nat} {t : Nat} (h : Ws s) : (Sy22.step1 W s t).length = 5 ∧ Ws (Sy22.step1 W s t) := by
  unfold Sy22.step1
  exact ⟨rfl, ws5 (m32 _) (h.at_ 0) (left_lt (h.at_ 1)) (h.at_ 2) (h.at_ 3)⟩
theorem cur2_ok {W s : List Nat} (hl : s.length = 8) (h : Ws s) : ∀ n, (cur2 W s n).length = 8 ∧ Ws (cur2 W s n)
  | 0 => ⟨hl, h⟩
  | n + 1 => by rw [cur2_succ]; exact step2_ok (cur2_ok hl h n).2
theorem cur1_ok {W s : List Nat} (hl : s.length = 5) (h : Ws s) : ∀ n, (cur1 W s n).length = 5 ∧ Ws (cur1 W s n)
  | 0 => ⟨hl, h⟩
  | n + 1 => by rw [cur1_succ]; exact step1_ok (cur1_ok hl h n).2
theorem added_ok (s t : List Nat) : (Sy22.added s t).length = min s.length t.length ∧ Ws (Sy22.added s t) := by
  unfold Sy22.added
  refine ⟨by simp, fun z hz => ?_⟩
  rw [List.mem_iff_getElem?] at hz
  obtain ⟨i, hi⟩ := hz
  rw [List.getElem?_zipWith] at hi
  cases e1 : s[i]? with
  | none => rw [e1] at hi; simp at hi
  | some a =>
    cases e2 : t[i]? with
    | none => rw [e1, e2] at hi; simp at hi
    | some b =>
      rw [e1, e2] at hi
      have : (a + b) % Sy22.W32 = z := by simpa using hi
      subst this
      exact m32 _
theorem sp1_at {W : List Nat} {n : Nat} (h : W.length = n) : sp1 W = W ++ [Sy22.left (W.getD (n - 3) 0 ^^^ W.getD (n - 8) 0 ^^^ W.getD (n - 14) 0 ^^^ W.getD (n - 16) 0) 1] := by
  subst h
  unfold sp1
  dsimp only
  rw [Nat.xor_assoc, Nat.xor_assoc]
theorem sp2_at {W : List Nat} {n : Nat} (h : W.length = n) : sp2 W = W ++ [(W.getD (n - 16) 0 + (Sy22.right (W.getD (n - 15) 0) 7 ^^^ (Sy22.right (W.getD (n - 15) 0) 18 ^^^ W.getD (n - 15) 0 / 2 ^ 3)) + W.getD (n - 7) 0 + (Sy22.right (W.getD (n - 2) 0) 17 ^^^ (Sy22.right (W.getD (n - 2) 0) 19 ^^^ W.getD (n - 2) 0 / 2 ^ 10))) &&& 4294967295] := by
  subst h
  unfold sp2
  dsimp only
  rw [mask_eq, W32_eq]
  congr 3
  omega
structure St (kind : Nat) (s : List Nat) : Prop where
  len : s.length = size kind
  ws : Ws s
theorem blk_st {kind : Nat} (hk : kind = 1 ∨ kind = 2) {s : List Nat} (h : St kind s) (b : List Nat) : St kind (blk kind s b) := by
  have hl := h.len
  rcases hk with rfl | rfl
  · have := added_ok s (cur1 (Sy22.more1 (Sy22.wordsOf b)) s 80)
    rw [(cur1_ok hl h.ws 80).1, hl] at this
    exact ⟨this.1, this.2⟩
  · have := added_ok s (cur2 (Sy22.more2 (Sy22.wordsOf b)) s 64)
    rw [(cur2_ok hl h.ws 64).1, hl] at this
    exact ⟨this.1, this.2⟩
theorem fold_st {kind : Nat} (hk : kind = 1 ∨ kind = 2) {s : List Nat} (h : St kind s) (b : List Nat) : St kind (fold kind s b) := by
  unfold fold
  generalize Sy22.pieces 64 b = ps
  induction ps generalizing s with
  | nil => exact h
  | cons x ps ih => exact ih (blk_st hk h x)
theorem start_st {kind : Nat} (hk : kind = 1 ∨ kind = 2) : St kind (start kind) := by
  rcases hk with rfl | rfl
  · exact ⟨rfl, by show Ws I1; unfold Ws; decide⟩
  · exact ⟨rfl, by show Ws I2; unfold Ws; decide⟩
theorem flat_big {kind : Nat} {s : List Nat} (h : St kind s) : (s.flatMap (Sy22.big 4)).length = 4 * size kind := by
  rw [← h.len]
  generalize s = l
  induction l with
  | nil => rfl
  | cons a l ih => rw [List.flatMap_cons, List.length_append, big_len, ih, List.length_cons]; omega
theorem added_range {s t : List Nat} (h : s.length = t.length) : (List.range s.length).map (fun i => (s.getD i 0 + t.getD i 0) &&& 4294967295) = Sy22.added s t := by
  unfold Sy22.added
  refine List.ext_getElem (by simp [h]) fun i h1 h2 => ?_
  have hi : i < s.length := by simpa using h1
  simp only [List.getElem_map, List.getElem_range, List.getElem_zipWith]
  have e1 : s.getD i 0 = s[i] := by simp [hi]
  have e2 : t.getD i 0 = t[i]'(by omega) := by simp [← h, hi]
  rw [mask_eq, e1, e2]
  rfl
theorem block2_cur (s b : List Nat) : Sy22.block2 s b = Sy22.added s (cur2 (Sy22.more2 (Sy22.wordsOf b)) s 64) := by unfold Sy22.block2 cur2; rfl
theorem block1_cur (s b : List Nat) : Sy22.block1 s b = Sy22.added s (cur1 (Sy22.more1 (Sy22.wordsOf b)) s 80) := by unfold Sy22.block1 cur1; rfl
theorem fold_zero (kind : Nat) (s b : List Nat) : fold kind s (b.take (64 * 0)) = s := by simp [fold, Sy22.pieces]
/-! ### a sum under way -/
def wh (b : List Nat) : Nat := 64 * (b.length / 64)
def stOf (kind : Nat) (b : List Nat) : List Nat := fold kind (start kind) (b.take (wh b))
def wtOf (b : List Nat) : List Nat := b.drop (wh b)
theorem stOf_st {kind : Nat} (hk : kind = 1 ∨ kind = 2) (b : List Nat) : St kind (stOf kind b) := fold_st hk (start_st hk) _
theorem wh_le (b : List Nat) : wh b ≤ b.length := by unfold wh; omega
theorem wtOf_len (b : List Nat) : (wtOf b).length = b.length % 64 := by unfold wtOf wh; rw [List.length_drop]; omega
theorem wtOf_bytes {b : List Nat} (h : Bytes b) : Bytes (wtOf b) := h.drop _
theorem wh_add (b d : List Nat) : wh (b ++ d) = wh b + ((wtOf b ++ d).length - (wtOf b ++ d).length % 64) := by
  rw [List.length_append, wtOf_len]
  unfold wh
  rw [List.length_append]
  omega
theorem app_cut (b d : List Nat) (n : Nat) : (b ++ d).take (wh b + n) = b.take (wh b) ++ (wtOf b ++ d).take n := by
  have e : b ++ d = b.take (wh b) ++ (wtOf b ++ d) := by unfold wtOf; rw [← List.append_assoc, List.take_append_drop]
  have hl : (b.take (wh b)).length = wh b := by rw [List.length_take, Nat.min_eq_left (wh_le b)]
  rw [e, List.take_append, hl, Nat.add_sub_cancel_left, List.take_of_length_le (by omega)]
theorem app_cut' (b d : List Nat) (n : Nat) : (b ++ d).drop (wh b + n) = (wtOf b ++ d).drop n := by
  have e : b ++ d = b.take (wh b) ++ (wtOf b ++ d) := by unfold wtOf; rw [← List.append_assoc, List.take_append_drop]
  have hl : (b.take (wh b)).length = wh b := by rw [List.length_take, Nat.min_eq_left (wh_le b)]
  rw [e, List.drop_append, hl, Nat.add_sub_cancel_left, List.drop_eq_nil_of_le (by omega), List.nil_append]
theorem take_wh (b : List Nat) : (b.take (wh b)).length % 64 = 0 := by rw [List.length_take, Nat.min_eq_left (wh_le b)]; unfold wh; omega
theorem st_add (kind : Nat) (b d : List Nat) : fold kind (stOf kind b) ((wtOf b ++ d).take ((wtOf b ++ d).length - (wtOf b ++ d).length % 64)) = stOf kind (b ++ d) := by
  show _ = fold kind (start kind) ((b ++ d).take (wh (b ++ d)))
  rw [wh_add, app_cut, fold_app _ _ _ (take_wh b)]
  rfl
theorem wt_add (b d : List Nat) : (wtOf b ++ d).drop ((wtOf b ++ d).length - (wtOf b ++ d).length % 64) = wtOf (b ++ d) := by
  show _ = (b ++ d).drop (wh (b ++ d))
  rw [wh_add, app_cut']
theorem told_eq {kind : Nat} (hk : kind = 1 ∨ kind = 2) (b : List Nat) : (fold kind (stOf kind b) (wtOf b ++ ([128] ++ Sy22.zeros ((119 - b.length % 64) % 64)) ++ Sy22.big 8 (8 * b.length))).flatMap (Sy22.big 4) = Sy22.sum kind b := by
  rw [sum_eq hk]
  unfold stOf
  rw [← fold_app _ _ _ (take_wh b)]
  congr 2
  unfold wtOf Sy22.closed
  rw [← List.append_assoc, ← List.append_assoc, List.take_append_drop]
  simp
theorem st_nil (kind : Nat) : stOf kind [] = start kind ∧ wtOf [] = [] := ⟨rfl, rfl⟩
theorem closed_len (b : List Nat) : (wtOf b ++ ([128] ++ Sy22.zeros ((119 - b.length % 64) % 64)) ++ Sy22.big 8 (8 * b.length)).length % 64 = 0 ∧ (wtOf b ++ ([128] ++ Sy22.zeros ((119 - b.length % 64) % 64)) ++ Sy22.big 8 (8 * b.length)).length ≤ 192 := by
  rw [List.length_append, List.length_append, List.length_append, big_len, wtOf_len, List.length_singleton]
  unfold Sy22.zeros
  rw [List.length_replicate]
  omega
theorem sum_len {kind : Nat} (hk : kind = 1 ∨ kind = 2) (b : List Nat) : (Sy22.sum kind b).length = 4 * size kind := by
  rw [sum_eq hk]
  exact flat_big (fold_st hk (start_st hk) _)
theorem sum_bytes {kind : Nat} (hk : kind = 1 ∨ kind = 2) (b : List Nat) : Bytes (Sy22.sum kind b) := by
  rw [sum_eq hk, List.flatMap_def]
  refine Bytes.flat fun x hx => ?_
  obtain ⟨y, _, rfl⟩ := List.mem_map.mp hx
  exact big_bytes 4 y
/-! ### a mark -/
theorem mark_eq (key data : List Int) : PySy22.mark key data = ans (Sy22.does (.mark (Sy22Neutral.nats key) (Sy22Neutral.nats data))).v (Sy22.does (.mark (Sy22Neutral.nats key) (Sy22Neutral.nats data))).rows := by
  rw [← f_ans]; rfl
theorem words_len (b : List Nat) : (Sy22.wordsOf b).length = b.length / 4 := by unfold Sy22.wordsOf Sy22.pieces; simp
theorem words_ws {b : List Nat} (h : Bytes b) : Ws (Sy22.wordsOf b) := fun x hx => by
  unfold Sy22.wordsOf Sy22.pieces at hx
  obtain ⟨p, hp, rfl⟩ := List.mem_map.mp hx
  obtain ⟨i, _, rfl⟩ := List.mem_map.mp hp
  have h1 := bigOf_lt (part_bytes h (4 * i) 4)
  have h2 : (Sy22.part b (4 * i) 4).length ≤ 4 := by unfold Sy22.part; rw [List.length_take]; omega
  have h3 : 256 ^ (Sy22.part b (4 * i) 4).length ≤ 256 ^ 4 := Nat.pow_le_pow_right (by decide) h2
  have : (256 : Nat) ^ 4 = 2 ^ 32 := by decide
  omega
end
section
/-! ### the tag's product -/
def nxt (v : Nat) : Nat := if v % 2 = 1 then (v / 2) ^^^ Sy22.carried else v / 2
theorem tagged_succ (n x v : Nat) : Sy22.tagged (n + 1) x v = (if x.testBit n = true then v else 0) ^^^ Sy22.tagged n x (nxt v) := rfl
theorem bit_is (x p : Nat) : (x / 2 ^ p &&& 1 = 0) ↔ ¬ x.testBit p = true := by
  rw [Nat.and_one_is_mod, Nat.testBit_eq_decide_div_mod_eq]
  simp
theorem and1 (x : Nat) : (x &&& 1 = 0) ↔ ¬ x % 2 = 1 := by rw [Nat.and_one_is_mod]; omega
theorem carried_eq : Sy22.carried = 299076299051606071403356588563077529600 := by decide +kernel
theorem tagged_lt : ∀ (n x v : Nat), v < 2 ^ 128 → Sy22.tagged n x v < 2 ^ 128
  | 0, _, _, _ => by show 0 < 2 ^ 128; decide
  | n + 1, x, v, h => by
    rw [tagged_succ]
    refine Nat.xor_lt_two_pow ?_ (tagged_lt n x _ ?_)
    · split
      · exact h
      · decide
    · unfold nxt
      split
      · exact Nat.xor_lt_two_pow (by omega) (by decide +kernel)
      · omega
theorem times_lt (x : Nat) {y : Nat} (h : y < 2 ^ 128) : Sy22.times x y < 2 ^ 128 := tagged_lt 128 x y h
/-! ### blocks of 16 taken in -/
def hash (h y : Nat) (b : List Nat) : Nat := (Sy22.pieces 16 b).foldl (fun (y : Nat) (x : List Nat) => Sy22.times (y ^^^ Sy22.bigOf x) h) y
theorem hashed_eq (h : Nat) (b : List Nat) : Sy22.hashed h b = hash h 0 b := rfl
theorem pieces_app16 (a b : List Nat) (h : a.length % 16 = 0) : Sy22.pieces 16 (a ++ b) = Sy22.pieces 16 a ++ Sy22.pieces 16 b := pieces_app (by decide) a b h
theorem hash_app (h y : Nat) (a b : List Nat) (hl : a.length % 16 = 0) : hash h y (a ++ b) = hash h (hash h y a) b := by
  unfold hash
  rw [pieces_app16 a b hl, List.foldl_append]
theorem hash_snoc (h y : Nat) (b : List Nat) (n : Nat) (hl : 16 * (n + 1) ≤ b.length) : hash h y (b.take (16 * (n + 1))) = Sy22.times (hash h y (b.take (16 * n)) ^^^ Sy22.bigOf (Sy22.part b (16 * n) 16)) h := by
  have e : b.take (16 * (n + 1)) = b.take (16 * n) ++ Sy22.part b (16 * n) 16 := by rw [Nat.mul_add, Nat.mul_one, List.take_add]; rfl
  have hl2 : (Sy22.part b (16 * n) 16).length = 16 := part_len (by omega)
  rw [e, hash_app _ _ _ _ (by rw [List.length_take, Nat.min_eq_left (by omega)]; omega)]
  show (Sy22.pieces 16 _).foldl _ _ = _
  have : Sy22.pieces 16 (Sy22.part b (16 * n) 16) = [Sy22.part b (16 * n) 16] := by
    unfold Sy22.pieces
    rw [hl2]
    show [Sy22.part _ (16 * 0) 16] = _
    rw [Nat.mul_zero]
    show [(List.drop 0 _).take 16] = _
    rw [List.drop_zero, List.take_of_length_le (by omega)]
  rw [this]
  rfl
theorem hash_zero (h y : Nat) (b : List Nat) : hash h y (b.take (16 * 0)) = y := by simp [hash, Sy22.pieces]
theorem hash_lt {h y : Nat} (hh : h < 2 ^ 128) (hy : y < 2 ^ 128) (b : List Nat) : hash h y b < 2 ^ 128 := by
  unfold hash
  generalize Sy22.pieces 16 b = ps
  induction ps generalizing y with
  | nil => exact hy
  | cons x ps ih => exact ih (times_lt _ hh)
def w16 (b : List Nat) : Nat := 16 * (b.length / 16)
/-- what was taken in of z, and what waits -/
def tgOf (h : Nat) (z : List Nat) : Nat := hash h 0 (z.take (w16 z))
def wzOf (z : List Nat) : List Nat := z.drop (w16 z)
theorem w16_le (b : List Nat) : w16 b ≤ b.length := by unfold w16; omega
theorem wzOf_len (z : List Nat) : (wzOf z).length = z.length % 16 := by unfold wzOf w16; rw [List.length_drop]; omega
theorem w16_add (b d : List Nat) : w16 (b ++ d) = w16 b + ((wzOf b ++ d).length - (wzOf b ++ d).length % 16) := by
  rw [List.length_append, wzOf_len]
  unfold w16
  rw [List.length_append]
  omega
theorem z_cut (b d : List Nat) (n : Nat) : (b ++ d).take (w16 b + n) = b.take (w16 b) ++ (wzOf b ++ d).take n := by
  have e : b ++ d = b.take (w16 b) ++ (wzOf b ++ d) := by unfold wzOf; rw [← List.append_assoc, List.take_append_drop]
  have hl : (b.take (w16 b)).length = w16 b := by rw [List.length_take, Nat.min_eq_left (w16_le b)]
  rw [e, List.take_append, hl, Nat.add_sub_cancel_left, List.take_of_length_le (by omega)]
theorem z_cut' (b d : List Nat) (n : Nat) : (b ++ d).drop (w16 b + n) = (wzOf b ++ d).drop n := by
  have e : b ++ d = b.take (w16 b) ++ (wzOf b ++ d) := by unfold wzOf; rw [← List.append_assoc, List.take_append_drop]
  have hl : (b.take (w16 b)).length = w16 b := by rw [List.length_take, Nat.min_eq_left (w16_le b)]
  rw [e, List.drop_append, hl, Nat.add_sub_cancel_left, List.drop_eq_nil_of_le (by omega), List.nil_append]
theorem take_w16 (b : List Nat) : (b.take (w16 b)).length % 16 = 0 := by rw [List.length_take, Nat.min_eq_left (w16_le b)]; unfold w16; omega
theorem tg_add (h : Nat) (b d : List Nat) : hash h (tgOf h b) ((wzOf b ++ d).take ((wzOf b ++ d).length - (wzOf b ++ d).length % 16)) = tgOf h (b ++ d) := by
  show _ = hash h 0 ((b ++ d).take (w16 (b ++ d)))
  rw [w16_add, z_cut, hash_app _ _ _ _ (take_w16 b)]
  rfl
theorem wz_add (b d : List Nat) : (wzOf b ++ d).drop ((wzOf b ++ d).length - (wzOf b ++ d).length % 16) = wzOf (b ++ d) := by
  show _ = (b ++ d).drop (w16 (b ++ d))
  rw [w16_add, z_cut']
theorem tg_whole {h : Nat} {z : List Nat} (hz : z.length % 16 = 0) : tgOf h z = Sy22.hashed h z ∧ wzOf z = [] := by
  have e : w16 z = z.length := by unfold w16; omega
  unfold tgOf wzOf
  rw [e, List.take_length, List.drop_length]
  exact ⟨rfl, rfl⟩
theorem filled_len (z : List Nat) : (Sy22.filled z).length % 16 = 0 := by
  unfold Sy22.filled Sy22.zeros
  rw [List.length_append, List.length_replicate]
  omega
theorem filled_le (z : List Nat) : (Sy22.filled z).length ≤ z.length + 15 ∧ z.length ≤ (Sy22.filled z).length := by
  unfold Sy22.filled Sy22.zeros
  rw [List.length_append, List.length_replicate]
  omega
theorem filled_eq (z : List Nat) : Sy22.filled z = z ++ List.replicate ((16 - (wzOf z).length % 16) % 16) 0 := by
  unfold Sy22.filled Sy22.zeros
  rw [wzOf_len, show (16 - z.length % 16 % 16) % 16 = (16 - z.length % 16) % 16 by omega]
theorem filled_app {a : List Nat} (b : List Nat) (h : a.length % 16 = 0) : Sy22.filled (a ++ b) = a ++ Sy22.filled b := by
  unfold Sy22.filled
  rw [List.append_assoc, List.length_append, show (a.length + b.length) % 16 = b.length % 16 by omega]
theorem filled_self {a : List Nat} (h : a.length % 16 = 0) : Sy22.filled a = a := by
  unfold Sy22.filled Sy22.zeros
  rw [h]
  simp
theorem zeros_bytes (n : Nat) : Bytes (Sy22.zeros n) := fun y hy => by
  unfold Sy22.zeros at hy
  rw [List.mem_replicate] at hy; omega
theorem filled_bytes {z : List Nat} (h : Bytes z) : Bytes (Sy22.filled z) := h.app (zeros_bytes _)
/-! ### the stream -/
def ks (key nonce : List Nat) (j : Nat) : Nat := Sy22.at_ (Sy22.block key (Sy22.counter nonce (j / 16 + 2))) (j % 16)
def runS (key nonce t : List Nat) (n : Nat) : List Nat := (List.range t.length).map fun i => t.getD i 0 ^^^ ks key nonce (n + i)
theorem runS_len (key nonce t : List Nat) (n : Nat) : (runS key nonce t n).length = t.length := by simp [runS]
theorem flat16k {f : Nat → List Nat} (hf : ∀ i, (f i).length = 16) : ∀ (n j : Nat), j < 16 * n → (((List.range n).map f).flatten).getD j 0 = (f (j / 16)).getD (j % 16) 0
  | 0, _, h => by omega
  | n + 1, j, h => by
    have hl : ∀ n, (((List.range n).map f).flatten).length = 16 * n := by
      intro n
      induction n with
      | zero => rfl
      | succ n ih => rw [List.range_succ, List.map_append, List.flatten_append, List.length_append, ih]; simp [hf]; omega
    rw [List.range_succ, List.map_append, List.flatten_append]
    simp only [List.map_cons, List.map_nil, List.flatten_cons, List.flatten_nil, List.append_nil]
    by_cases hj : j < 16 * n
    · rw [getD_app1 (by rw [hl]; exact hj), flat16k hf n j hj]
    · rw [getD_app2 (by rw [hl]; omega), hl, show j / 16 = n by omega, show j % 16 = j - 16 * n by omega]
theorem stream_at {key nonce : List Nat} (hb : ∀ i, (Sy22.block key (Sy22.counter nonce i)).length = 16) {n j : Nat} (h : j < n) : (Sy22.stream key nonce n).getD j 0 = ks key nonce j := by
  unfold Sy22.stream
  rw [List.getD_eq_getElem?_getD, List.getElem?_take_of_lt h, ← List.getD_eq_getElem?_getD, flat16k (f := fun i => Sy22.block key (Sy22.counter nonce (i + 2))) (fun i => hb _) _ _ (by omega)]
  rfl
theorem stream_len {key nonce : List Nat} (hb : ∀ i, (Sy22.block key (Sy22.counter nonce i)).length = 16) (n : Nat) : (Sy22.stream key nonce n).length = n := by
  unfold Sy22.stream
  have hl : ∀ m, (((List.range m).map fun (i : Nat) => Sy22.block key (Sy22.counter nonce (i + 2))).flatten).length = 16 * m := by
    intro m
    induction m with
    | zero => rfl
    | succ m ih => rw [List.range_succ, List.map_append, List.flatten_append, List.length_append, ih]; simp [hb]; omega
  rw [List.length_take, hl]
  omega
theorem runS_xor {key nonce : List Nat} (hb : ∀ i, (Sy22.block key (Sy22.counter nonce i)).length = 16) (t : List Nat) (n : Nat) : runS key nonce t n = Sy22.xor t ((Sy22.stream key nonce (n + t.length)).drop n) := by
  unfold Sy22.xor runS
  refine List.ext_getElem (by simp [stream_len hb]) fun i h1 h2 => ?_
  have hi : i < t.length := by simpa using h1
  simp only [List.getElem_map, List.getElem_range, List.getElem_zipWith, List.getElem_drop]
  have e := stream_at (key := key) (nonce := nonce) hb (n := n + t.length) (j := n + i) (by omega)
  have hs : n + i < (Sy22.stream key nonce (n + t.length)).length := by rw [stream_len hb]; omega
  rw [show (Sy22.stream key nonce (n + t.length)).getD (n + i) 0 = (Sy22.stream key nonce (n + t.length))[n + i] by simp [hs]] at e
  rw [e, show t.getD i 0 = t[i] by simp [hi]]
theorem runS_zero {key nonce : List Nat} (hb : ∀ i, (Sy22.block key (Sy22.counter nonce i)).length = 16) (t : List Nat) : runS key nonce t 0 = Sy22.xor t (Sy22.stream key nonce t.length) := by
  rw [runS_xor hb, Nat.zero_add, List.drop_zero]
/-! ### the tag -/
theorem big_mod (n : Nat) : Sy22.big 4 (n % 2 ^ 32) = Sy22.big 4 n := by
  unfold Sy22.big Sy22.little
  congr 1
  refine List.map_congr_left fun i hi => ?_
  have hi : i < 4 := List.mem_range.mp hi
  match i, hi with
  | 0, _ => omega
  | 1, _ => omega
  | 2, _ => omega
  | 3, _ => omega
theorem xor_div (a b n : Nat) : (a ^^^ b) / 2 ^ n = (a / 2 ^ n) ^^^ (b / 2 ^ n) := by
  refine Nat.eq_of_testBit_eq fun i => ?_
  simp only [Nat.testBit_div_two_pow, Nat.testBit_xor]
theorem big_xor (k a b : Nat) : Sy22.big k (a ^^^ b) = Sy22.xor (Sy22.big k a) (Sy22.big k b) := by
  rw [← big_eq, ← big_eq, ← big_eq]
  unfold Sy22.xor
  refine List.ext_getElem (by simp) fun i h1 h2 => ?_
  simp only [List.getElem_map, List.getElem_range, List.getElem_zipWith]
  rw [xor_div]
  refine Nat.eq_of_testBit_eq fun j => ?_
  simp only [Nat.testBit_and, Nat.testBit_xor]
  cases (255 : Nat).testBit j <;> simp
theorem big_snoc (k n : Nat) : Sy22.big (k + 1) n = Sy22.big k (n / 256) ++ [n % 256] := by
  unfold Sy22.big Sy22.little
  rw [List.range_succ_eq_map, List.map_cons, List.reverse_cons, Nat.pow_zero, Nat.div_one, List.map_map]
  congr 2
  refine List.map_congr_left fun i _ => ?_
  show n / 256 ^ (i + 1) % 256 = n / 256 / 256 ^ i % 256
  rw [Nat.div_div_eq_div_mul, Nat.pow_succ, Nat.mul_comm]
theorem big_bigOf_go : ∀ (n : Nat) (b : List Nat), b.length = n → Bytes b → Sy22.big n (Sy22.bigOf b) = b
  | 0, [], _, _ => rfl
  | n + 1, b, hl, hb => by
    have hne : b ≠ [] := by intro e; subst e; simp at hl
    have e := List.dropLast_concat_getLast hne
    have hb2 : Bytes b.dropLast := fun x hx => hb x (List.dropLast_subset _ hx)
    have hx := hb _ (List.getLast_mem hne)
    generalize b.getLast hne = x at *
    have hl2 : b.dropLast.length = n := by rw [List.length_dropLast]; omega
    rw [← e, bigOf_snoc, big_snoc, show (256 * Sy22.bigOf b.dropLast + x) / 256 = Sy22.bigOf b.dropLast by omega, show (256 * Sy22.bigOf b.dropLast + x) % 256 = x by omega, big_bigOf_go n _ hl2 hb2]
theorem big_bigOf {b : List Nat} {n : Nat} (hl : b.length = n) (hb : Bytes b) : Sy22.big n (Sy22.bigOf b) = b := big_bigOf_go n b hl hb
theorem xor_comm' (a b : List Nat) : Sy22.xor a b = Sy22.xor b a := by
  unfold Sy22.xor
  exact List.zipWith_comm_of_comm (fun x y => Nat.xor_comm x y)
theorem tag_eq {key nonce w c : List Nat} (hl : (Sy22.block key (Sy22.counter nonce 1)).length = 16) (hb : Bytes (Sy22.block key (Sy22.counter nonce 1))) :
    Sy22.big 16 (Sy22.hashed (Sy22.bigOf (Sy22.block key (Sy22.zeros 16))) (Sy22.filled w ++ (Sy22.filled c ++ (Sy22.big 8 (8 * w.length) ++ Sy22.big 8 (8 * c.length)))) ^^^ Sy22.bigOf (Sy22.block key (Sy22.counter nonce 1))) = Sy22.tag key nonce w c := by
  rw [big_xor, big_bigOf hl hb, xor_comm']
  rfl
theorem seal_eq (n : Int) (key nonce beside text : List Int) : PySy22.seal_ n key nonce beside text = ans (Sy22.does (.sealed n.toNat (Sy22Neutral.nats key) (Sy22Neutral.nats nonce) (Sy22Neutral.nats beside) (Sy22Neutral.nats text))).v (Sy22.does (.sealed n.toNat (Sy22Neutral.nats key) (Sy22Neutral.nats nonce) (Sy22Neutral.nats beside) (Sy22Neutral.nats text))).rows := by
  rw [← f_ans]; rfl
theorem open_eq (n : Int) (key nonce beside text : List Int) : PySy22.open_sealed n key nonce beside text = ans (Sy22.does (.open_ n.toNat (Sy22Neutral.nats key) (Sy22Neutral.nats nonce) (Sy22Neutral.nats beside) (Sy22Neutral.nats text))).v (Sy22.does (.open_ n.toNat (Sy22Neutral.nats key) (Sy22Neutral.nats nonce) (Sy22Neutral.nats beside) (Sy22Neutral.nats text))).rows := by
  rw [← f_ans]; rfl
end
open PySem PySem.Spec PyProof.Rows L2
section
/-! ### lists of natural numbers as values -/
def nv (xs : List Nat) : List V := xs.map fun (n : Nat) => V.int (n : Int)
theorem nv_len (xs : List Nat) : (nv xs).length = xs.length := by simp [nv]
theorem nv_nil : nv [] = [] := rfl
theorem nv_cons (x : Nat) (xs : List Nat) : nv (x :: xs) = V.int (x : Int) :: nv xs := rfl
theorem nv_app (xs ys : List Nat) : nv (xs ++ ys) = nv xs ++ nv ys := by simp [nv]
theorem nv_snoc (xs : List Nat) (y : Nat) : nv xs ++ [V.int (y : Int)] = nv (xs ++ [y]) := by simp [nv]
theorem nv_take (xs : List Nat) (n : Nat) : (nv xs).take n = nv (xs.take n) := by simp [nv, List.map_take]
theorem nv_drop (xs : List Nat) (n : Nat) : (nv xs).drop n = nv (xs.drop n) := by simp [nv, List.map_drop]
theorem nv_set (xs : List Nat) (i y : Nat) : (nv xs).set i (V.int (y : Int)) = nv (xs.set i y) := by simp [nv, List.map_set]
theorem nv_get {xs : List Nat} {i : Nat} (h : i < xs.length) : (nv xs)[i]? = some (V.int ((xs.getD i 0 : Nat) : Int)) := by
  simp [nv, h]
theorem nv_at {xs : List Nat} {z : Int} (h0 : 0 ≤ z) (h : z < (xs.length : Int)) : atI (nv xs) z = some (V.int ((xs.getD z.toNat 0 : Nat) : Int)) :=
  at_of (j := z.toNat) (by omega) (nv_get (by omega))
theorem nv_of_get {xs : List Nat} {i : Nat} {x : V} (h : (nv xs)[i]? = some x) : i < xs.length ∧ x = V.int ((xs.getD i 0 : Nat) : Int) := by
  have hl : i < xs.length := by
    have := (List.getElem?_eq_some_iff.mp h).1
    rwa [nv_len] at this
  rw [nv_get hl] at h
  exact ⟨hl, (Option.some.inj h).symm⟩
theorem nv_cut (xs : List Nat) (lo hi : Option Int) : cutV (nv xs) lo hi = nv ((xs.drop (HT.sIx xs.length 0 lo)).take (HT.sIx xs.length xs.length hi - HT.sIx xs.length 0 lo)) := by
  unfold cutV
  rw [nv_len, nv_drop, nv_take]
theorem nv_inj : ∀ {xs ys : List Nat}, nv xs = nv ys → xs = ys
  | [], [], _ => rfl
  | [], _ :: _, h => by cases h
  | _ :: _, [], h => by cases h
  | x :: xs, y :: ys, h => by
    injection h with h1 h2
    injection h1 with h1
    rw [Int.ofNat.inj h1, nv_inj h2]
/-- the items of xs[a:b] for places in it -/
def cut (xs : List Nat) (a b : Nat) : List Nat := (xs.drop a).take (b - a)
theorem nv_cut2 {xs : List Nat} {a b : Int} (ha : 0 ≤ a) (hb : 0 ≤ b) (h : b ≤ xs.length) : cutV (nv xs) (some a) (some b) = nv (cut xs a.toNat b.toNat) := by
  rw [nv_cut]
  have e1 : HT.sIx xs.length 0 (some a) = min a.toNat xs.length := by
    show (if a < 0 then _ else _) = _
    rw [if_neg (by omega)]
  have e2 : HT.sIx xs.length xs.length (some b) = b.toNat := by
    show (if b < 0 then _ else _) = _
    rw [if_neg (by omega)]
    omega
  rw [e1, e2]
  unfold cut
  by_cases h2 : a.toNat ≤ xs.length
  · rw [Nat.min_eq_left h2]
  · rw [Nat.min_eq_right (by omega), List.drop_eq_nil_of_le (Nat.le_refl _), List.drop_eq_nil_of_le (by omega)]
    simp
theorem nv_cutFrom {xs : List Nat} {a : Int} (ha : 0 ≤ a) (h : a ≤ xs.length) : cutV (nv xs) (some a) none = nv (xs.drop a.toNat) := by
  rw [nv_cut]
  have e1 : HT.sIx xs.length 0 (some a) = a.toNat := by
    show (if a < 0 then _ else _) = _
    rw [if_neg (by omega)]
    omega
  rw [e1, HT.sIx_none, List.take_of_length_le (by simp)]
theorem nv_cutTo {xs : List Nat} {b : Int} (hb : 0 ≤ b) (h : b ≤ xs.length) : cutV (nv xs) none (some b) = nv (xs.take b.toNat) := by
  rw [nv_cut]
  have e2 : HT.sIx xs.length xs.length (some b) = b.toNat := by
    show (if b < 0 then _ else _) = _
    rw [if_neg (by omega)]
    omega
  rw [e2, HT.sIx_none]
  simp

/-! ### lists of whole numbers -/
def iv (zs : List Int) : List V := zs.map fun (z : Int) => V.int z
theorem iv_len (zs : List Int) : (iv zs).length = zs.length := by simp [iv]
theorem iv_snoc (zs : List Int) (z : Int) : iv zs ++ [V.int z] = iv (zs ++ [z]) := by simp [iv]
theorem iv_app (zs ys : List Int) : iv zs ++ iv ys = iv (zs ++ ys) := by simp [iv]
theorem nv_iv (xs : List Nat) : nv xs = iv (xs.map fun (n : Nat) => (n : Int)) := by simp [iv, nv]
/-! ### the def's own objects over the heap at its entry -/
structure Loc (H0 H : Hp) (ls : List (Addr × HO)) : Prop where
  same : Same H0 H
  nd : (ls.map (·.1)).Nodup
  at_ : ∀ p ∈ ls, H0 p.1 = none ∧ H p.1 = some p.2
section
variable {H0 H H' : Hp} {ls ms : List (Addr × HO)} {p : Addr} {o o' : HO}
theorem Loc.start (H : Hp) : Loc H H [] := ⟨Same.refl H, List.nodup_nil, fun _ h => by cases h⟩
theorem Loc.get (L : Loc H0 H ls) (j : Nat) (h : ls[j]? = some (p, o)) : H p = some o := (L.at_ _ (List.mem_of_getElem? h)).2
theorem Loc.fresh (L : Loc H0 H ls) (j : Nat) (h : ls[j]? = some (p, o)) : H0 p = none := (L.at_ _ (List.mem_of_getElem? h)).1
theorem Loc.calls (L : Loc H0 H ls) (M : Loc H H' ms) : Loc H0 H' (ls ++ ms) := by
  refine ⟨L.same.trans M.same, ?_, fun q hq => ?_⟩
  · rw [List.map_append, List.nodup_append]
    refine ⟨L.nd, M.nd, fun a ha b hb e => ?_⟩
    subst e
    obtain ⟨x, hx, rfl⟩ := List.mem_map.mp ha
    obtain ⟨y, hy, e⟩ := List.mem_map.mp hb
    have h1 := (L.at_ x hx).2
    have h2 := (M.at_ y hy).1
    rw [e, h1] at h2
    cases h2
  · rcases List.mem_append.mp hq with h | h
    · exact ⟨(L.at_ q h).1, M.same _ _ (L.at_ q h).2⟩
    · exact ⟨L.same.free (M.at_ q h).1, (M.at_ q h).2⟩
theorem Loc.one (hp : H p = none) : Loc H (upd H p o) [(p, o)] := by
  refine ⟨fun b u e => ?_, by simp, fun q hq => ?_⟩
  · rw [upd_ne (ne_of_none e hp)]
    exact e
  · rw [List.mem_singleton] at hq
    subst hq
    exact ⟨hp, upd_same⟩
theorem Loc.new (L : Loc H0 H ls) (hp : H p = none) : Loc H0 (upd H p o) (ls ++ [(p, o)]) := L.calls (Loc.one hp)
theorem Loc.put (L : Loc H0 H ls) (j : Nat) (h : ls[j]? = some (p, o)) : Loc H0 (upd H p o') (ls.set j (p, o')) := by
  have hj : j < ls.length := (List.getElem?_eq_some_iff.mp h).1
  have hm : (ls.set j (p, o')).map (·.1) = ls.map (·.1) := by
    rw [List.map_set]
    refine List.ext_getElem? fun i => ?_
    by_cases e : j = i
    · subst e
      rw [List.getElem?_set_self (by simpa using hj), List.getElem?_map, h]
      rfl
    · rw [List.getElem?_set_ne e]
  refine ⟨fun b u e => ?_, ?_, fun q hq => ?_⟩
  · rw [upd_ne (ne_of_none e (L.fresh j h))]
    exact L.same b u e
  · rw [hm]; exact L.nd
  · obtain ⟨i, hi⟩ := List.getElem?_of_mem hq
    by_cases e : j = i
    · subst e
      rw [List.getElem?_set_self hj] at hi
      cases hi
      exact ⟨L.fresh j h, upd_same⟩
    · rw [List.getElem?_set_ne e] at hi
      have ne : q.1 ≠ p := fun z => e (nd_ix L.nd (by rw [List.getElem?_map, h]; rfl) (by rw [List.getElem?_map, hi]; simp [z]))
      exact ⟨(L.at_ q (List.mem_of_getElem? hi)).1, by rw [upd_ne ne]; exact (L.at_ q (List.mem_of_getElem? hi)).2⟩
theorem Loc.sub (L : Loc H0 H ls) (h : ms.Sublist ls) : Loc H0 H ms :=
  ⟨L.same, (h.map _).nodup L.nd, fun q hq => L.at_ q (h.mem hq)⟩
theorem Loc.pick (L : Loc H0 H ls) (j : Nat) (h : ls[j]? = some (p, o)) : Loc H0 H [(p, o)] := L.sub (List.singleton_sublist.mpr (List.mem_of_getElem? h))
theorem Loc.take (L : Loc H0 H ls) (n : Nat) : Loc H0 H (ls.take n) := L.sub (List.take_sublist n ls)
theorem Loc.lst {K : PySem.W.Frag} {xs : List V} (L : Loc H0 H ls) (j : Nat) (h : ls[j]? = some (p, .lst xs)) : SqL K H p xs := SqL.of (L.get j h)
theorem Loc.arg {K : PySem.W.Frag} {xs : List V} (L : Loc H0 H ls) (h : SqL K H0 p xs) : SqL K H p xs := L.same.seq h
end

/-! ### readings -/
def NewL (xs : List V) (H : Hp) (Q : VK) : Prop := xs.length ≤ sizeLine ∧ ∀ p, H p = none → Q (.ref p) (upd H p (.lst xs))
def RLen (K : PySem.W.Frag) : List V → Hp → VK → Prop := fun xs H Q => ∃ p ys, xs = [.ref p] ∧ (SqL K H p ys ∨ SqT K H p ys) ∧ Q (.int ys.length) H
def RList (K : PySem.W.Frag) : List V → Hp → VK → Prop := fun xs H Q => ∃ p ys, xs = [.ref p] ∧ (SqL K H p ys ∨ SqT K H p ys) ∧ ∀ l, H l = none → Q (.ref l) (upd H l (.lst ys))
theorem c_len {X : Cx} : CallR X (.builtin "len") (RLen X.K) := call_len_seq
theorem c_list {X : Cx} : CallR X (.type "list") (RList X.K) := call_list_of
theorem b_list : bootBuiltins "list" = some (.type "list") := by decide +kernel
theorem b_len : bootBuiltins "len" = some (.builtin "len") := by decide +kernel
theorem c_lenK {X : Cx} {K : PySem.W.Frag} (h : X.K = K) : CallR X (.builtin "len") (RLen K) := h ▸ c_len
theorem c_listK {X : Cx} {K : PySem.W.Frag} (h : X.K = K) : CallR X (.type "list") (RList K) := h ▸ c_list
theorem ix_tupK {X : Cx} {K : PySem.W.Frag} (h : X.K = K) : IxR X (rIxT K) := h ▸ ix_tup
theorem ix_listK {X : Cx} {K : PySem.W.Frag} (h : X.K = K) : IxR X (rIxL K) := h ▸ ix_list
theorem sl_listK {X : Cx} {K : PySem.W.Frag} (h : X.K = K) : SlR X (rSlL K) := h ▸ sl_list
theorem op_inK {X : Cx} {K : PySem.W.Frag} (h : X.K = K) : OpR X (compareOp .In) (rIn K false) := h ▸ op_in_seq
theorem op_notInK {X : Cx} {K : PySem.W.Frag} (h : X.K = K) : OpR X (compareOp .NotIn) (rIn K true) := h ▸ op_notIn_seq
section
variable {σ : L2.St} {H H0 : Hp} {Q : VK} {v : V} {i : Nat} {r : R2} {ta tb : TE} {K : PySem.W.Frag} {ls : List (Addr × HO)} {p : Addr} {D : Ends}
theorem r_var (h : σ[i]? = some (some v)) (q : Q v H) : tVar i σ H Q := ⟨v, h, q⟩
theorem r_c0 (q : Q (.int ((0 : Nat) : Int)) H) : tC (.int 0) σ H Q := q
theorem r_cN {n : Nat} (q : Q (.int ((OfNat.ofNat n : Nat) : Int)) H) : tC (.int (OfNat.ofNat n : Int)) σ H Q := q
theorem r_c (q : Q v H) : tC v σ H Q := q
theorem r_op (q : ta σ H fun x H1 => tb σ H1 fun y H2 => r x y H2 Q) : tOp r ta tb σ H Q := q
theorem r_un {u : V → Hp → VK → Prop} (q : ta σ H fun x H1 => u x H1 Q) : tUn u ta σ H Q := q
theorem r_i1 {g : Int → V} {z : Int} (q : Q (g z) H) : rU g (.int z) H Q := ⟨z, rfl, q⟩
theorem r_i2 {g : Int → Int → V} {x y : Int} (q : Q (g x y) H) : rI0 g (.int x) (.int y) H Q := ⟨x, y, rfl, rfl, q⟩
theorem r_i2c {C : Int → Int → Prop} {g : Int → Int → V} {x y : Int} (c : C x y) (q : Q (g x y) H) : rI C g (.int x) (.int y) H Q := ⟨x, y, rfl, rfl, c, q⟩
theorem r_xor {a b : Nat} (q : Q (.int ((a ^^^ b : Nat) : Int)) H) : rI0 (fun i j => .int (Builtin.bitXor i j)) (.int (a : Int)) (.int (b : Int)) H Q := by
  refine r_i2 ?_
  rw [Bits.bitXor_pp (Int.natCast_nonneg a) (Int.natCast_nonneg b), Int.toNat_natCast, Int.toNat_natCast]
  exact q
theorem r_addN {a b : Nat} (q : Q (.int ((a + b : Nat) : Int)) H) : rI0 (fun i j => .int (i + j)) (.int (a : Int)) (.int (b : Int)) H Q := by
  refine r_i2 ?_
  rw [← Int.natCast_add]
  exact q
theorem r_fdivN {a b : Nat} (h1 : 0 < b) (h2 : b < 1073741824) (q : Q (.int ((a / b : Nat) : Int)) H) : rI CDiv (fun i j => .int (i / j)) (.int (a : Int)) (.int (b : Int)) H Q := by
  refine r_i2c ⟨by omega, by omega⟩ ?_
  rw [← Int.natCast_ediv]
  exact q
theorem r_modN {a b : Nat} (h1 : 0 < b) (q : Q (.int ((a % b : Nat) : Int)) H) : rI (fun _ j => 0 < j) (fun i j => .int (i % j)) (.int (a : Int)) (.int (b : Int)) H Q := by
  refine r_i2c (by omega) ?_
  rw [← Int.natCast_emod]
  exact q
theorem r_mulN {a b : Nat} (h1 : a < 2 ^ 64) (q : Q (.int ((a * b : Nat) : Int)) H) : rI CMul (fun i j => .int (i * j)) (.int (a : Int)) (.int (b : Int)) H Q := by
  refine r_i2c (.inl ⟨by omega, by omega⟩) ?_
  rw [← Int.natCast_mul]
  exact q
theorem r_shlN {a b : Nat} (h1 : a < 2 ^ 64) (h2 : b ≤ 1000000) (q : Q (.int ((a * 2 ^ b : Nat) : Int)) H) : rI CPow (fun i j => .int (i * 2 ^ j.toNat)) (.int (a : Int)) (.int (b : Int)) H Q := by
  refine r_i2c ⟨by omega, by omega, by rw [Int.natAbs_natCast]; exact h1⟩ ?_
  rw [Int.toNat_natCast, Bits.natCast_mul_pow]
  exact q
theorem r_lt {a b : Nat} (q : Q (.bl (decide (a < b))) H) : rI0 (fun i j => .bl (decide (i < j))) (.int (a : Int)) (.int (b : Int)) H Q := by
  refine r_i2 ?_
  rw [show (decide ((a : Int) < (b : Int))) = decide (a < b) by simp]
  exact q
theorem r_eqN {a b : Nat} (q : Q (.bl (decide (a = b))) H) : rEq (.int (a : Int)) (.int (b : Int)) H Q := by
  refine ⟨rfl, ?_⟩
  rw [show decide (V.int (a : Int) = V.int (b : Int)) = decide (a = b) by simp [Int.ofNat_inj]]
  exact q
theorem r_neN {a b : Nat} (q : Q (.bl (!decide (a = b))) H) : rNe (.int (a : Int)) (.int (b : Int)) H Q := by
  refine ⟨rfl, ?_⟩
  rw [show decide (V.int (a : Int) = V.int (b : Int)) = decide (a = b) by simp [Int.ofNat_inj]]
  exact q
theorem r_test {t : TE} {R : Bool → Hp → Prop} (q : t σ H fun x H' => ∃ k, x = .bl k ∧ R k H') : tTest t σ H R := q
theorem r_bl {R : Bool → Prop} {k : Bool} (q : R k) : ∃ k', V.bl k = .bl k' ∧ R k' := ⟨k, rfl, q⟩
theorem r_and {t u : TT} {R : Bool → Hp → Prop} (q : t σ H fun c H1 => if c = true then u σ H1 R else R false H1) : tAnd t u σ H R := q
theorem r_if {c A B : Prop} [Decidable c] (h1 : c → A) (h2 : ¬ c → B) : if decide c = true then A else B := by
  by_cases h : c
  · rw [if_pos (decide_eq_true h)]; exact h1 h
  · rw [if_neg (by simpa using h)]; exact h2 h
theorem r_ifn {c A B : Prop} [Decidable c] (h1 : ¬ c → A) (h2 : c → B) : if (!decide c) = true then A else B := by
  by_cases h : c
  · rw [if_neg (by simpa using h)]; exact h2 h
  · rw [if_pos (by simpa using h)]; exact h1 h
theorem r_ix {xs : List Nat} {z : Int} (hs : SqL K H p (nv xs)) (h0 : 0 ≤ z) (h : z < (xs.length : Int)) (q : Q (.int ((xs.getD z.toNat 0 : Nat) : Int)) H) : rIxL K (.ref p) (.int z) H Q :=
  ⟨p, _, z, _, rfl, rfl, hs, nv_at h0 h, q⟩
theorem r_ixN {xs : List Nat} {n : Nat} (hs : SqL K H p (nv xs)) (h : n < xs.length) (q : Q (.int ((xs.getD n 0 : Nat) : Int)) H) : rIxL K (.ref p) (.int (n : Int)) H Q :=
  ⟨p, _, n, _, rfl, rfl, hs, at_of rfl (nv_get h), q⟩
theorem r_ixT {xs : List Nat} {n : Nat} (hs : SqT K H p (nv xs)) (h : n < xs.length) (q : Q (.int ((xs.getD n 0 : Nat) : Int)) H) : rIxT K (.ref p) (.int (n : Int)) H Q :=
  ⟨p, _, n, _, rfl, rfl, hs, at_of rfl (nv_get h), q⟩
theorem r_notIn3 {z : Int} (hs : SqT K H p (nv [16, 24, 32])) (q : Q (.bl (!decide (z = 16 ∨ z = 24 ∨ z = 32))) H) : rIn K true (.int z) (.ref p) H Q := by
  refine ⟨p, _, rfl, .inr hs, rfl, by decide, ?_⟩
  have e : inV (.int z) (nv [16, 24, 32]) = decide (z = 16 ∨ z = 24 ∨ z = 32) := by
    rw [Bool.eq_iff_iff, decide_eq_true_iff]
    show (((16 : Int) == z) || (((24 : Int) == z) || (((32 : Int) == z) || false))) = true ↔ _
    simp only [Bool.or_eq_true, beq_iff_eq, Bool.false_eq_true, or_false]
    omega
  rw [e]
  exact q
theorem r_tyL {xs : List V} {R : Prop} (h : SqL K H p xs) (q : R) : tyV K "list" (.ref p) H ∧ R := ⟨.inl ⟨rfl, _, h⟩, q⟩
theorem r_bm {T : String} {m : V → List V → Hp → VK → Prop} {t : TA} (q : ta σ H fun x H1 => tyV K T x H1 ∧ t σ H1 fun xs H2 => m x xs H2 Q) : tBM K T m ta t σ H Q := q
theorem r_nil {R : List V → Hp → Prop} (q : R [] H) : tNil σ H R := q
theorem r_cons {t : TA} {R : List V → Hp → Prop} (q : ta σ H fun x H1 => t σ H1 fun xs H2 => R (x :: xs) H2) : tCons ta t σ H R := q
theorem r_lst {t : TA} (q : t σ H fun xs H1 => NewL xs H1 Q) : tLst t σ H Q := q
theorem r_new {xs : List V} (L : Loc H0 H ls) (hz : xs.length ≤ sizeLine) (q : ∀ p H', Loc H0 H' (ls ++ [(p, .lst xs)]) → Q (.ref p) H') : NewL xs H Q :=
  ⟨hz, fun p hp => q p _ (L.new hp)⟩
theorem r_append {xs : List V} {y : V} (L : Loc H0 H ls) (j : Nat) (hj : ls[j]? = some (p, .lst xs)) (hz : xs.length < sizeLine) (q : ∀ H', Loc H0 H' (ls.set j (p, .lst (xs ++ [y]))) → Q .non H') : rAppend (.ref p) [y] H Q :=
  ⟨p, xs, y, rfl, rfl, L.get j hj, hz, q _ (L.put j hj)⟩
theorem r_extend {xs ys : List V} {b : Addr} (L : Loc H0 H ls) (j : Nat) (hj : ls[j]? = some (p, .lst xs)) (hb : H b = some (.lst ys)) (hz : xs.length + ys.length ≤ sizeLine) (q : ∀ H', Loc H0 H' (ls.set j (p, .lst (xs ++ ys))) → Q .non H') : rExtend (.ref p) [.ref b] H Q :=
  ⟨p, b, xs, ys, rfl, rfl, L.get j hj, hb, hz, q _ (L.put j hj)⟩
theorem r_slice {xs : List V} {lo hi : Option Int} {a : Addr} (L : Loc H0 H ls) (h : SqL K H a xs) (q : ∀ p H', Loc H0 H' (ls ++ [(p, .lst (cutV xs lo hi))]) → Q (.ref p) H') : rSlL K (.ref a) lo hi H Q :=
  ⟨a, xs, rfl, h, fun p hp => q p _ (L.new hp)⟩
theorem r_cat {xs ys : List V} {a b : Addr} (L : Loc H0 H ls) (ha : H a = some (.lst xs)) (hb : H b = some (.lst ys)) (hz : xs.length + ys.length ≤ sizeLine) (q : ∀ p H', Loc H0 H' (ls ++ [(p, .lst (xs ++ ys))]) → Q (.ref p) H') : rCat (.ref a) (.ref b) H Q :=
  ⟨a, b, xs, ys, rfl, rfl, ha, hb, hz, fun p hp => q p _ (L.new hp)⟩
theorem r_sl {r : V → Option Int → Option Int → Hp → VK → Prop} {te : TE} {tl th : TO} (q : te σ H fun x H1 => tl σ H1 fun l H2 => th σ H2 fun u H3 => r x l u H3 Q) : tSl r te tl th σ H Q := q
theorem r_noPart {R : Option Int → Hp → Prop} (q : R none H) : tNoPart σ H R := q
theorem r_part {te : TE} {R : Option Int → Hp → Prop} (q : te σ H fun x H1 => ∃ i, x = .int i ∧ R (some i) H1) : tPart te σ H R := q
theorem r_exInt {z : Int} {R : Int → Prop} (q : R z) : ∃ i, V.int z = .int i ∧ R i := ⟨z, rfl, q⟩
theorem r_setL {xs : List V} {n : Nat} {y : V} {R : Hp → Prop} (L : Loc H0 H ls) (j : Nat) (hj : ls[j]? = some (p, .lst xs)) (hn : n < xs.length) (q : ∀ H', Loc H0 H' (ls.set j (p, .lst (xs.set n y))) → R H') : rSetL (.ref p) (.int (n : Int)) y H R :=
  ⟨p, xs, n, n, rfl, rfl, L.get j hj, by unfold ixN; rw [if_pos (by omega), if_pos (by omega)]; simp, q _ (L.put j hj)⟩
theorem r_cb {t : TA} {f : List V → Hp → VK → Prop} (q : t σ H fun vs H1 => f vs H1 Q) : tCB f t σ H Q := q
theorem r_len {xs : List V} (h : SqL K H p xs) (q : Q (.int (xs.length : Int)) H) : RLen K [.ref p] H Q :=
  ⟨p, xs, rfl, .inl h, q⟩
theorem r_listOf {xs : List V} {a : Addr} (L : Loc H0 H ls) (h : SqL K H a xs) (q : ∀ p H', Loc H0 H' (ls ++ [(p, .lst xs)]) → Q (.ref p) H') : RList K [.ref a] H Q :=
  ⟨a, xs, rfl, .inl h, fun p hp => q p _ (L.new hp)⟩
theorem r_call {sp : Sp} {dvs : List V} {E : XK} {t : TA} (q : t σ H fun vs H1 => sp (vs ++ dvs) H1 Q E) : tCall sp dvs E t σ H Q := q
theorem r_ifE {t : TT} (q : t σ H fun c H1 => if c = true then ta σ H1 Q else tb σ H1 Q) : tIf t ta tb σ H Q := q
/-! statements -/
theorem s_seq {t u : TS} (q : t { D with nx := u D } σ H) : tSeq t u D σ H := q
theorem s_asg {g : TG} (q : ta σ H fun x H1 => g x σ H1 D.nx) : tAsg ta g D σ H := q
theorem s_name {R : L2.St → Hp → Prop} (q : R (σ.set i (some v)) H) : gName i v σ H R := q
theorem s_ret (q : ta σ H D.rt) : tRet ta D σ H := q
theorem s_drop (q : ta σ H fun _ H1 => D.nx σ H1) : tDrop ta D σ H := q
theorem s_if {c : TT} {t u : TS} (q : c σ H fun b H1 => if b = true then t D σ H1 else u D σ H1) : tIfS c t u D σ H := q
theorem s_next (q : D.nx σ H) : tNext D σ H := q
theorem s_sub {to ti : TE} {t : TSet} {R : L2.St → Hp → Prop} (q : to σ H fun o H1 => ti σ H1 fun i H2 => t o i v H2 fun H3 => R σ H3) : gSub to ti t v σ H R := q
theorem s_for {wi : TI} {g : TG} {tb : TS} (q : wi σ H fun J H1 => ∃ W : Nat → Nat → L2.St → Hp → Prop, (∃ m, W 0 m σ H1) ∧ ∀ i m σ H, W i m σ H →
  (J.stop i H ∧ D.nx σ H) ∨ (J.go i H ∧ ∃ N : L2.St → Hp → Prop, (∀ σ' H', N σ' H' → ∃ m', m' < m ∧ W (i + 1) m' σ' H') ∧ ∀ x H', J.yld i H x H' → g x σ H' fun σ2 H2 => tb { D with nx := N, ct := N, bk := D.nx } σ2 H2)) : tFor wi g tb D σ H := q
theorem r_rng3 {t : TA} {R : It → Hp → Prop} (q : t σ H fun vs H1 => ∃ (i j c : Int) (n : Nat), vs = [.int i, .int j, .int c] ∧ RgC i j c n ∧ R (Itc i c n) H1) : iRng3 t σ H R := q
theorem r_rng2 {t : TA} {R : It → Hp → Prop} (q : t σ H fun vs H1 => ∃ i j : Int, vs = [.int i, .int j] ∧ (-(2 ^ 62) ≤ i ∧ i < 2 ^ 62 ∧ -(2 ^ 62) ≤ j ∧ j < 2 ^ 62) ∧ R (Itr i (j - i).toNat) H1) : iRng2 t σ H R := q
theorem r_rng1 {t : TA} {R : It → Hp → Prop} (q : t σ H fun vs H1 => ∃ j : Int, vs = [.int j] ∧ -(2 ^ 62) ≤ j ∧ j < 2 ^ 62 ∧ R (Itr 0 j.toNat) H1) : iRng1 t σ H R := q
theorem r_ilist {tl : TE} {R : It → Hp → Prop} (q : tl σ H fun x H1 => ∃ a, x = .ref a ∧ (∃ xs, SqL K H1 a xs) ∧ R (Itl K a) H1) : iList K tl σ H R := q
theorem r_ituple {tl : TE} {R : It → Hp → Prop} (q : tl σ H fun x H1 => ∃ a, x = .ref a ∧ (∃ xs, SqT K H1 a xs) ∧ R (Itt K a) H1) : iTup K tl σ H R := q
theorem r_lenN {xs : List Nat} (h : SqL K H p (nv xs)) (q : Q (.int (xs.length : Int)) H) : RLen K [.ref p] H Q :=
  ⟨p, nv xs, rfl, .inl h, by rw [nv_len]; exact q⟩
end
/-! ### loops -/
section
variable {g : TG} {tb : TS} {σ : L2.St} {H : Hp} {nx : L2.St → Hp → Prop} {rt : VK} {K : PySem.W.Frag} {a : Addr} {xs : List V}
theorem f_rangeC {lo c : Int} {n : Nat} (Pv : Nat → L2.St → Hp → Prop) (h0 : Pv 0 σ H)
    (hs : ∀ i σ H, i < n → Pv i σ H → g (.int (lo + (i : Nat) * c)) σ H fun σ2 H2 => tb { nx := Pv (i + 1), rt := rt, bk := nx, ct := Pv (i + 1) } σ2 H2) (hd : ∀ σ H, Pv n σ H → nx σ H) :
    ∃ W : Nat → Nat → L2.St → Hp → Prop, (∃ m, W 0 m σ H) ∧ ∀ i m σ H, W i m σ H →
      ((Itc lo c n).stop i H ∧ nx σ H) ∨ ((Itc lo c n).go i H ∧ ∃ N : L2.St → Hp → Prop, (∀ σ' H', N σ' H' → ∃ m', m' < m ∧ W (i + 1) m' σ' H') ∧ ∀ x H', (Itc lo c n).yld i H x H' → g x σ H' fun σ2 H2 => tb { nx := N, rt := rt, bk := nx, ct := N } σ2 H2) :=
  for_rangeC (D := { nx := nx, rt := rt }) Pv h0 hs hd
theorem f_range {lo : Int} {n : Nat} (Pv : Nat → L2.St → Hp → Prop) (h0 : Pv 0 σ H)
    (hs : ∀ i σ H, i < n → Pv i σ H → g (.int (lo + i)) σ H fun σ2 H2 => tb { nx := Pv (i + 1), rt := rt, bk := nx, ct := Pv (i + 1) } σ2 H2) (hd : ∀ σ H, Pv n σ H → nx σ H) :
    ∃ W : Nat → Nat → L2.St → Hp → Prop, (∃ m, W 0 m σ H) ∧ ∀ i m σ H, W i m σ H →
      ((Itr lo n).stop i H ∧ nx σ H) ∨ ((Itr lo n).go i H ∧ ∃ N : L2.St → Hp → Prop, (∀ σ' H', N σ' H' → ∃ m', m' < m ∧ W (i + 1) m' σ' H') ∧ ∀ x H', (Itr lo n).yld i H x H' → g x σ H' fun σ2 H2 => tb { nx := N, rt := rt, bk := nx, ct := N } σ2 H2) :=
  for_range (D := { nx := nx, rt := rt }) Pv h0 hs hd
theorem f_list (Pv : Nat → L2.St → Hp → Prop) (h0 : Pv 0 σ H) (hl : ∀ i σ H, i ≤ xs.length → Pv i σ H → SqL K H a xs)
    (hs : ∀ i x σ H, xs[i]? = some x → Pv i σ H → g x σ H fun σ2 H2 => tb { nx := Pv (i + 1), rt := rt, bk := nx, ct := Pv (i + 1) } σ2 H2) (hd : ∀ σ H, Pv xs.length σ H → nx σ H) :
    ∃ W : Nat → Nat → L2.St → Hp → Prop, (∃ m, W 0 m σ H) ∧ ∀ i m σ H, W i m σ H →
      ((Itl K a).stop i H ∧ nx σ H) ∨ ((Itl K a).go i H ∧ ∃ N : L2.St → Hp → Prop, (∀ σ' H', N σ' H' → ∃ m', m' < m ∧ W (i + 1) m' σ' H') ∧ ∀ x H', (Itl K a).yld i H x H' → g x σ H' fun σ2 H2 => tb { nx := N, rt := rt, bk := nx, ct := N } σ2 H2) :=
  for_list (D := { nx := nx, rt := rt }) Pv h0 hl hs hd
theorem f_tup (Pv : Nat → L2.St → Hp → Prop) (h0 : Pv 0 σ H) (hl : ∀ i σ H, i ≤ xs.length → Pv i σ H → SqT K H a xs)
    (hs : ∀ i x σ H, xs[i]? = some x → Pv i σ H → g x σ H fun σ2 H2 => tb { nx := Pv (i + 1), rt := rt, bk := nx, ct := Pv (i + 1) } σ2 H2) (hd : ∀ σ H, Pv xs.length σ H → nx σ H) :
    ∃ W : Nat → Nat → L2.St → Hp → Prop, (∃ m, W 0 m σ H) ∧ ∀ i m σ H, W i m σ H →
      ((Itt K a).stop i H ∧ nx σ H) ∨ ((Itt K a).go i H ∧ ∃ N : L2.St → Hp → Prop, (∀ σ' H', N σ' H' → ∃ m', m' < m ∧ W (i + 1) m' σ' H') ∧ ∀ x H', (Itt K a).yld i H x H' → g x σ H' fun σ2 H2 => tb { nx := N, rt := rt, bk := nx, ct := N } σ2 H2) :=
  for_tup (D := { nx := nx, rt := rt }) Pv h0 hl hs hd
end
/-! ### while, by turns -/
section
variable {c : TT} {tb : TS} {σ : L2.St} {H : Hp} {D : Ends}
def WGo (n t : Nat) (Pv : Nat → L2.St → Hp → Prop) (tb : TS) (nx : L2.St → Hp → Prop) (rt : VK) (σ : L2.St) (H1 : Hp) : Prop :=
  ∃ N : L2.St → Hp → Prop, (∀ σ' H', N σ' H' → ∃ m', m' < n - t ∧ ∃ t', t' ≤ n ∧ m' = n - t' ∧ Pv t' σ' H') ∧ tb { nx := N, rt := rt, bk := nx, ct := N } σ H1
theorem wgo {n t : Nat} {Pv : Nat → L2.St → Hp → Prop} {nx : L2.St → Hp → Prop} {rt : VK} (ht : t < n) (q : tb { nx := Pv (t + 1), rt := rt, bk := nx, ct := Pv (t + 1) } σ H) : WGo n t Pv tb nx rt σ H :=
  ⟨Pv (t + 1), fun σ' H' p => ⟨n - (t + 1), by omega, t + 1, by omega, rfl, p⟩, q⟩
theorem w_by (Pv : Nat → L2.St → Hp → Prop) (n : Nat) (h0 : Pv 0 σ H)
    (hs : ∀ t σ H, t ≤ n → Pv t σ H → c σ H fun b H1 => if b = true then WGo n t Pv tb D.nx D.rt σ H1 else D.nx σ H1) : tWhile c tb D σ H := by
  refine ⟨fun m σ H => ∃ t, t ≤ n ∧ m = n - t ∧ Pv t σ H, ⟨_, 0, Nat.zero_le _, rfl, h0⟩, ?_⟩
  rintro m σ H ⟨t, ht, rfl, p⟩
  exact hs t σ H ht p
end
/-! ### comprehensions whose item is a number -/
section
variable {s : Nat} {te : TE} {σ : L2.St} {H H0 H1 : Hp} {K : PySem.W.Frag} {a : Addr} {Q : VK} {ls : List (Addr × HO)}
def LcGo (J : It) (g : TG) (tt : TT) (te : TE) (vs : List Nat) (σ : L2.St) (H1 : Hp) (Q : VK) : Prop := ∀ D, H1 D = none → ∃ W : Nat → Nat → Hp → Prop, (∃ m, W 0 m (upd H1 D (.lst []))) ∧ ∀ i m H, W i m H →
  (J.stop i H ∧ Q (.ref D) H) ∨ (J.go i H ∧ ∃ Nx : Hp → Prop, (∀ H', Nx H' → ∃ m', m' < m ∧ W (i + 1) m' H') ∧ ∀ x H', J.yld i H x H' → g x (wipe σ vs) H' fun σ2 H2 => wipe σ2 vs = wipe σ vs ∧ tt σ2 H2 fun b H3 =>
    if b = true then te σ2 H3 fun y H4 => ∃ acc, H4 D = some (.lst acc) ∧ acc.length < sizeLine ∧ Nx (upd H4 D (.lst (acc ++ [y]))) else Nx H3)
theorem r_lc {wi : TI} {g : TG} {tt : TT} {vs : List Nat} (q : wi σ H fun J H1 => LcGo J g tt te vs σ H1 Q) : tLc wi g tt te vs σ H Q := q
theorem r_isq {p : Addr} {xs : List V} {R : Addr → Prop} (h : SqL K H p xs) (q : R p) : ∃ a, V.ref p = .ref a ∧ (∃ xs, SqL K H a xs) ∧ R a := ⟨p, rfl, ⟨_, h⟩, q⟩
theorem r_ist {p : Addr} {xs : List V} {R : Addr → Prop} (h : SqT K H p xs) (q : R p) : ∃ a, V.ref p = .ref a ∧ (∃ xs, SqT K H a xs) ∧ R a := ⟨p, rfl, ⟨_, h⟩, q⟩
theorem wipe_self (σ : L2.St) (s : Nat) (v : Option V) : wipe ((wipe σ [s]).set s v) [s] = wipe σ [s] := by
  simp [wipe]
theorem lc_turn {n : Nat} {f : Nat → Nat} {J : It} (L : Loc H0 H1 ls) (hz : n ≤ sizeLine) (xv : Nat → V)
    (hgo : ∀ (i : Nat) (H : Hp), i < n → Same H1 H → J.go i H) (hstop : ∀ (H : Hp), Same H1 H → J.stop n H) (hy : ∀ (i : Nat) (H H' : Hp) (x : V), i < n → Same H1 H → J.yld i H x H' → H' = H ∧ x = xv i)
    (he : ∀ (i : Nat), i < n → ∀ (H : Hp) (D : Addr) (o : HO) (R : VK), Loc H0 H (ls ++ [(D, o)]) → R (.int ((f i : Nat) : Int)) H → te ((σ.set s none).set s (some (xv i))) H R)
    (q : ∀ D H', Loc H0 H' (ls ++ [(D, .lst (nv ((List.range n).map f)))]) → Q (.ref D) H') : LcGo J (gName s) tYes te [s] σ H1 Q := by
  intro D hD
  have M0 : Loc H1 (upd H1 D (.lst (nv ((List.range 0).map f)))) [(D, .lst (nv ((List.range 0).map f)))] := Loc.one hD
  refine ⟨fun i m H => m = n - i ∧ i ≤ n ∧ Loc H1 H [(D, .lst (nv ((List.range i).map f)))], ⟨n, by simp, Nat.zero_le _, M0⟩, ?_⟩
  rintro i m H ⟨rfl, hi, M⟩
  by_cases hlt : i < n
  · refine .inr ⟨hgo i H hlt M.same, fun H' => Loc H1 H' [(D, .lst (nv ((List.range (i + 1)).map f)))], fun H' M' => ⟨n - (i + 1), by omega, rfl, hlt, M'⟩, fun x H' y => ?_⟩
    obtain ⟨rfl, rfl⟩ := hy i H H' x hlt M.same y
    refine ⟨wipe_self σ s _, ?_⟩
    show te _ _ _
    refine he i hlt _ D _ _ (L.calls M) ⟨_, M.get 0 rfl, ?_, ?_⟩
    · rw [nv_len, List.length_map, List.length_range]; omega
    · have := M.put (o' := .lst (nv ((List.range i).map f) ++ [.int ((f i : Nat) : Int)])) 0 rfl
      rw [nv_snoc] at this
      rw [List.range_succ, List.map_append]
      rw [nv_snoc]
      exact this
  · have e : i = n := by omega
    subst e
    exact .inl ⟨hstop H M.same, q D H (L.calls M)⟩
/-- over a list of numbers -/
theorem lc_l {xs : List Nat} (L : Loc H0 H1 ls) (hs : SqL K H1 a (nv xs)) (hz : xs.length ≤ sizeLine) (f : Nat → Nat)
    (he : ∀ (i : Nat), i < xs.length → ∀ (H : Hp) (D : Addr) (o : HO) (R : VK), Loc H0 H (ls ++ [(D, o)]) → R (.int ((f i : Nat) : Int)) H → te ((σ.set s none).set s (some (.int ((xs.getD i 0 : Nat) : Int)))) H R)
    (q : ∀ D H', Loc H0 H' (ls ++ [(D, .lst (nv ((List.range xs.length).map f)))]) → Q (.ref D) H') : LcGo (Itl K a) (gName s) tYes te [s] σ H1 Q :=
  lc_turn L hz (fun i => .int ((xs.getD i 0 : Nat) : Int)) (fun i H hi sm => ⟨_, _, sm.seq hs, nv_get hi⟩) (fun H sm => ⟨_, sm.seq hs, by rw [nv_len]; exact Nat.le_refl _⟩)
    (fun i H H' x hi sm y => ⟨y.1, (nv_of_get (y.2 _ (sm.seq hs))).2⟩) he q
theorem SqT.mono {xs : List V} (h : SqT K H1 a xs) (e : Same H1 H) : SqT K H a xs := by
  rcases h with (h | ⟨o, h⟩) | h
  · exact .inl (.inl (e _ _ h))
  · exact .inl (.inr ⟨o, e _ _ h⟩)
  · exact .inr h
theorem lc_t {xs : List Nat} (L : Loc H0 H1 ls) (hs : SqT K H1 a (nv xs)) (hz : xs.length ≤ sizeLine) (f : Nat → Nat)
    (he : ∀ (i : Nat), i < xs.length → ∀ (H : Hp) (D : Addr) (o : HO) (R : VK), Loc H0 H (ls ++ [(D, o)]) → R (.int ((f i : Nat) : Int)) H → te ((σ.set s none).set s (some (.int ((xs.getD i 0 : Nat) : Int)))) H R)
    (q : ∀ D H', Loc H0 H' (ls ++ [(D, .lst (nv ((List.range xs.length).map f)))]) → Q (.ref D) H') : LcGo (Itt K a) (gName s) tYes te [s] σ H1 Q :=
  lc_turn L hz (fun i => .int ((xs.getD i 0 : Nat) : Int)) (fun i H hi sm => ⟨_, _, SqT.mono hs sm, nv_get hi⟩) (fun H sm => ⟨_, SqT.mono hs sm, by rw [nv_len]; exact Nat.le_refl _⟩)
    (fun i H H' x hi sm y => ⟨y.1, (nv_of_get (y.2 _ (SqT.mono hs sm))).2⟩) he q
theorem lc_r {n : Nat} (L : Loc H0 H1 ls) (hz : n ≤ sizeLine) (f : Nat → Nat)
    (he : ∀ (i : Nat), i < n → ∀ (H : Hp) (D : Addr) (o : HO) (R : VK), Loc H0 H (ls ++ [(D, o)]) → R (.int ((f i : Nat) : Int)) H → te ((σ.set s none).set s (some (.int (i : Int)))) H R)
    (q : ∀ D H', Loc H0 H' (ls ++ [(D, .lst (nv ((List.range n).map f)))]) → Q (.ref D) H') : LcGo (Itr 0 n) (gName s) tYes te [s] σ H1 Q :=
  lc_turn L hz (fun i => .int (i : Int)) (fun i H hi _ => hi) (fun H _ => Nat.le_refl n) (fun i H H' x hi _ y => ⟨y.1, by rw [y.2, Int.zero_add]⟩) he q
theorem range_map_get (xs : List Nat) (f : Nat → Nat) : (List.range xs.length).map (fun i => f (xs.getD i 0)) = xs.map f := by
  refine List.ext_getElem (by simp) fun i h1 h2 => ?_
  have hi : i < xs.length := by simpa using h1
  simp [hi]
end
/-! ### a statement with a word behind it -/
def tMid (t : TS) : TS := fun D σ H => ∃ M : L2.St → Hp → Prop, t { D with nx := M } σ H ∧ ∀ σ' H', M σ' H' → D.nx σ' H'
theorem ps_mid {X : Cx} {st : Stmt} {t : TS} (h : PS X st t) : PS X st (tMid t) := by
  intro pins s σ H D I q
  obtain ⟨M, q, r⟩ := q
  refine thn (h pins s σ H { D with nx := M } I q) fun f s1 z => ?_
  cases f with
  | next => obtain ⟨σ', H', I', z⟩ := z; exact ⟨σ', H', I', r _ _ z⟩
  | ret v => exact z
  | brk => exact z
  | cont => exact z
/-! ### tuples of the top -/
def cmpVals : List Value → List Nat → Bool
  | [], [] => true
  | .int i _ :: vs, n :: ns => (i == (n : Int)) && cmpVals vs ns
  | _, _ => false
def tupVals (its : Array Value) (xs : List Nat) : Bool := cmpVals its.toList xs && decide (its.size ≤ sizeLine)
theorem cmp_vals : ∀ {vs : List Value} {ns : List Nat}, cmpVals vs ns = true → Vals (nv ns) vs
  | [], [], _ => .nil
  | .int i t :: vs, n :: ns, h => by
    have h : ((i == (n : Int)) && cmpVals vs ns) = true := h
    rw [Bool.and_eq_true, beq_iff_eq] at h
    exact .cons ⟨t, by rw [h.1]⟩ (cmp_vals h.2)
  | [], _ :: _, h => by cases h
  | .int _ _ :: _, [], h => by cases h
  | .none :: _, [], h => by cases h
  | .none :: _, _ :: _, h => by cases h
  | .bool _ :: _, _, h => by simp [cmpVals] at h
  | .str _ _ :: _, _, h => by simp [cmpVals] at h
  | .ref _ :: _, _, h => by simp [cmpVals] at h
  | .type _ :: _, _, h => by simp [cmpVals] at h
  | .builtin _ :: _, _, h => by simp [cmpVals] at h
  | .float _ _ :: _, _, h => by simp [cmpVals] at h
  | .bytes _ _ :: _, _, h => by simp [cmpVals] at h
theorem tup_of {K : PySem.W.Frag} {a : Addr} {od : Option Addr} {its : Array Value} {n : Nat} {sl : Array (Option Value)} {xs : List Nat} (l : K.lookup a = some ⟨.type "tuple", od, .seq its n, sl⟩) (v : tupVals its xs = true) (H : Hp) : SqT K H a (nv xs) := by
  unfold tupVals at v
  rw [Bool.and_eq_true] at v
  exact .inr ⟨_, its, n, l, rfl, rfl, of_decide_eq_true v.2, cmp_vals v.1⟩
/-! ### what is called -/
structure Callee (P : Program) (w : World) (K : PySem.W.Frag) (mg : Str → Option Value) (base : Heap) (k : Nat) (x : Str) (ps : List Str) (sp : Sp) : Prop where
  ex : ∃ f fd, FnOk P w K mg base CX0 k f fd ps sp ∧ mg x = some (.ref f) ∧ PySem.W.keepIn K (.ref f) = true ∧ Binds K fd ps []
theorem pe_fn {X : Cx} {k : Nat} {x : Str} {ps : List Str} {sp : Sp} {p pos : Pos} {e : Expr} {es : List Expr} {t : TA} (C : Callee X.prog X.w X.K X.mg X.base k x ps sp) (hr : Room k X.A) (hg : Gl X x) (ha : PA X (e :: es) t)
    (hdb : (x == ("__debug__" : Str)) = false := by decide) (he : starEach (e :: es) X.env = (false, eval e X.env) :: starEach es X.env := by rfl) (hpl : (backTo pos (starEach es X.env)).any (·.1) = false := by rfl) :
    PE X (.Call (.Name x p) (e :: es) [] pos) (tCall sp [] E0 t) := by
  obtain ⟨f, fd, F, hm, hk, hb⟩ := C.ex
  exact pe_call F hr hg hm hk hb .nil pass0 ha hdb he hpl
end
section
/-! ### lists put together, whatever they are (tracked, handed in, of the module) -/
def rCatK (K : PySem.W.Frag) : R2 := fun x y H Q => ∃ l b xs zs, x = .ref l ∧ y = .ref b ∧ SqL K H l xs ∧ SqL K H b zs ∧ xs.length + zs.length ≤ sizeLine ∧ ∀ p, H p = none → Q (.ref p) (upd H p (.lst (xs ++ zs)))
theorem op_catS {X : Cx} : OpR X (binaryOp .Add) (rCatK X.K) := by
  intro pins s σ H x y v u Q I rx ry h
  obtain ⟨l, b, xs, zs, rfl, rfl, hH, hB, hz, q⟩ := h
  cases rx
  cases ry
  obtain ⟨its, r, ⟨⟨cls, dd, data, sl⟩, n, ho, hc, hdn, hd⟩, z⟩ := I.list hH
  obtain ⟨its2, r2, ⟨⟨cls2, dd2, data2, sl2⟩, n2, ho2, hc2, hdn2, hd2⟩, z2⟩ := I.list hB
  simp only at hc hd hc2 hd2
  subst hc hd hc2 hd2
  have hl := r.length
  have hl2 := r2.length
  have ea : its.toArray ++ its2.toArray = (its ++ its2).toArray := by simp
  refine concat_meets ⟨_, ho, rfl⟩ ⟨_, ho2, rfl⟩ noFill_list_add seq_list_add PySem.F.slot_list_add PySem.F.entry_list_add (PySem.F.args_list_add_2 _ _) (list_addW l b its.toArray its2.toArray n n2 dd dd2 sl sl2 (by rw [List.size_toArray, List.size_toArray]; omega)) ⟨ho, ho2, ?_⟩
  rw [ea]
  exact ⟨.ref _, _, I.lnew (t' := s.toks) (r.append r2) (by rw [List.length_append]; omega), rfl, q _ I.fresh⟩
theorem op_catK {X : Cx} {K : PySem.W.Frag} (h : X.K = K) : OpR X (binaryOp .Add) (rCatK K) := h ▸ op_catS
theorem mt_indexK {X : Cx} {K : PySem.W.Frag} (h : X.K = K) : MtR X "list.index" (rIndex K) := h ▸ mt_index
theorem pg_tupK {X : Cx} {K : PySem.W.Frag} {es : List Expr} {k : Nat} {pos : Pos} {t : TGs} {n : Nat} (hK : X.K = K) (hc : X.calm = true) (h : PGs X es t)
    (hn : (assignEach es X.env).length = n := by rfl) (hst : (assignEach es X.env).findIdx? (·.1) = none := by rfl) : PG X (.Tuple es k pos) (gTup K n t) := hK ▸ pg_tup hc h hn hst
theorem pi_zipK {X : Cx} {K : PySem.W.Frag} {e e2 : Expr} {ta : TA} {p pos tpos : Pos} {elts : List Expr} {kk : Nat} (hK : X.K = K) (hg : Gl X "zip") (hm : X.mg "zip" = none) (ha : PA X [e, e2] ta)
    (hs : starEach [e, e2] X.env = (false, eval e X.env) :: starEach [e2] X.env := by rfl) (hpl : (backTo pos (starEach [e2] X.env)).any (·.1) = false := by rfl) :
    PI X (.Tuple elts kk tpos) (.Call (.Name "zip" p) [e, e2] [] pos) (iZip K ta) := hK ▸ pi_zip hg hm ha hs hpl
def tTru (K : PySem.W.Frag) (ta : TE) : TT := fun σ H Q => ta σ H fun x H' => ∃ k, TruV K x H' k ∧ Q k H'
theorem pt_truthK {X : Cx} {K : PySem.W.Frag} {a : Expr} {ta : TE} (hK : X.K = K) (ha : PE X a ta) (he : ∀ whole, isTrue a X.env whole = (do let v ← whole; standAt a.pos; holding [v] (truthy v))) : PT X a (tTru K ta) := by
  subst hK
  exact pt_truth ha he
/-! ### a shift to the left by what the size allows -/
def CShl : Int → Int → Prop := fun i j => 0 ≤ j ∧ j ≤ 1000000 ∧ i.natAbs < 2 ^ 4096
theorem bits_le {a : Int} {n : Nat} (h : a.natAbs < 2 ^ n) : Builtin.Int.intBits a ≤ n := by
  unfold Builtin.Int.intBits
  split
  · exact Nat.zero_le _
  · rename_i h0
    have h0 : a.natAbs ≠ 0 := by
      intro e
      exact h0 (by simpa using e)
    have := (Nat.log2_lt h0).mpr h
    omega
theorem op_shlW {X : Cx} : OpR X (binaryOp .LShift) (rI CShl fun i j => .int (i * 2 ^ j.toNat)) := opI fun i j _ _ _ _ _ hc q => by
  refine lshift_int hc.1 ?_ q
  have := bits_le hc.2.2
  have := hc.2.1
  have : (2 : Int) ^ 27 = 134217728 := by decide
  omega
/-! ### own classes -/
structure Method (P : Program) (w : World) (K : PySem.W.Frag) (mg : Str → Option Value) (base : Heap) (k : Nat) (C : Addr) (m : Str) (ps : List Str) (sp : Sp) : Prop where
  ex : ∃ f fd, FnOk P w K mg base CX0 k f fd ps sp ∧ Meth K C m f ∧ Binds K fd ps []
structure Maker (P : Program) (w : World) (K : PySem.W.Frag) (mg : Str → Option Value) (base : Heap) (k : Nat) (C : Addr) (ps : List Str) (sp : Sp) : Prop where
  ex : ∃ f fd, FnOk P w K mg base CX0 k f fd ps sp ∧ Mk K C f ∧ Binds K fd ps []
section
variable {X : Cx} {k : Nat} {C : Addr} {m x : Str} {ps : List Str} {sp : Sp} {p pos apos : Pos} {o e : Expr} {es : List Expr} {ta : TE} {t : TA}
theorem pe_me {pl : Sem Bool} (c : Cls X.K C) (M : Method X.prog X.w X.K X.mg X.base k C m ps sp) (hr : Room k X.A) (he : PE X o ta) (ha : PA X (e :: es) t)
    (hst : starEach (e :: es) X.env = (false, eval e X.env) :: starEach es X.env := by rfl) (hpl : (backTo pos (starEach es X.env)).any (·.1) = false := by rfl)
    (ht : eval (.Call (.Attribute o m apos) (e :: es) [] pos) X.env = (do
      let ov ← eval o X.env
      standAt apos.atName
      let (f, first) ← holding [ov] (getMethod ov m pl)
      callWith pos f first (backTo pos (starEach (e :: es) X.env)) (backToKw pos (keywordEach [] X.env))) := by rfl) :
    PE X (.Call (.Attribute o m apos) (e :: es) [] pos) (tMeth C m sp [] E0 ta t) := by
  obtain ⟨f, fd, F, hm, hb⟩ := M.ex
  exact pe_meth he c hm F hr hb .nil pass0 ha hst hpl ht
theorem pe_me0 {pl : Sem Bool} (c : Cls X.K C) (M : Method X.prog X.w X.K X.mg X.base k C m ps sp) (hr : Room k X.A) (he : PE X o ta)
    (ht : eval (.Call (.Attribute o m apos) [] [] pos) X.env = (do
      let ov ← eval o X.env
      standAt apos.atName
      let (f, first) ← holding [ov] (getMethod ov m pl)
      callWith pos f first (backTo pos (starEach [] X.env)) (backToKw pos (keywordEach [] X.env))) := by rfl) :
    PE X (.Call (.Attribute o m apos) [] [] pos) (tMeth C m sp [] E0 ta tNil) := by
  obtain ⟨f, fd, F, hm, hb⟩ := M.ex
  exact pe_meth0 he c hm F hr hb .nil pass0 ht
theorem pe_mk (hm : X.mg x = some (.ref C)) (M : Maker X.prog X.w X.K X.mg X.base k C ps sp) (hr : Room (k + 1) X.A) (hg : Gl X x) (ha : PA X (e :: es) t)
    (hdb : (x == ("__debug__" : Str)) = false := by decide) (he : starEach (e :: es) X.env = (false, eval e X.env) :: starEach es X.env := by rfl) (hpl : (backTo pos (starEach es X.env)).any (·.1) = false := by rfl) :
    PE X (.Call (.Name x p) (e :: es) [] pos) (tMake C sp [] E0 t) := by
  obtain ⟨f, fd, F, mk, hb⟩ := M.ex
  exact pe_make mk F hr hg hm hb .nil pass0 ha hdb he hpl
theorem pe_mk0 (hm : X.mg x = some (.ref C)) (M : Maker X.prog X.w X.K X.mg X.base k C ps sp) (hr : Room (k + 1) X.A) (hg : Gl X x)
    (hdb : (x == ("__debug__" : Str)) = false := by decide) : PE X (.Call (.Name x p) [] [] pos) (tMake C sp [] E0 tNil) := by
  obtain ⟨f, fd, F, mk, hb⟩ := M.ex
  exact pe_make0 mk F hr hg hm hb .nil pass0 hdb
end
/-! ### an expression with a word behind it -/
def tMidE (t : TE) : TE := fun σ H Q => ∃ M : VK, t σ H M ∧ ∀ v H', M v H' → Q v H'
theorem pe_mid {X : Cx} {e : Expr} {t : TE} (h : PE X e t) : PE X e (tMidE t) := by
  intro pins s σ H Q I q
  obtain ⟨M, q, r⟩ := q
  exact thn (h pins s σ H M I q) fun u s1 ⟨v, H1, I1, rv, m⟩ => ⟨v, H1, I1, rv, r v H1 m⟩
theorem r_midE {t : TE} {σ : L2.St} {H : Hp} {Q : VK} (M : VK) (h : t σ H M) (q : ∀ v H', M v H' → Q v H') : tMidE t σ H Q := ⟨M, h, q⟩
/-! ### the heap without one object -/
def er (H : Hp) (x : Addr) : Hp := fun b => if b = x then none else H b
section
variable {H0 H H' : Hp} {ls ms : List (Addr × HO)} {x p : Addr} {o o' : HO} {K : PySem.W.Frag} {xs : List V}
theorem er_ne {b : Addr} (h : b ≠ x) : er H x b = H b := if_neg h
theorem er_same : er H x x = none := if_pos rfl
theorem er_some {b : Addr} (h : er H x b = some o) : b ≠ x ∧ H b = some o := by
  by_cases e : b = x
  · rw [e, er_same] at h; cases h
  · rw [er_ne e] at h; exact ⟨e, h⟩
/-- a method's body: its object is its own -/
theorem Loc.self (h : H x = some o) : Loc (er H x) H [(x, o)] := by
  refine ⟨fun b u e => (er_some e).2, by simp, fun q hq => ?_⟩
  rw [List.mem_singleton] at hq
  subst hq
  exact ⟨er_same, h⟩
/-- behind a method's call -/
theorem Loc.meth (L : Loc H0 H ls) (j : Nat) (hj : ls[j]? = some (x, o)) (M : Loc (er H x) H' ((x, o') :: ms)) : Loc H0 H' (ls.set j (x, o') ++ ms) := by
  have hx0 : H0 x = none := L.fresh j hj
  have hlt : j < ls.length := (List.getElem?_eq_some_iff.mp hj).1
  have sm : Same H0 H' := fun b u e => M.same b u (by rw [er_ne (ne_of_none e hx0)]; exact L.same b u e)
  have hm : (ls.set j (x, o')).map (·.1) = ls.map (·.1) := by
    rw [List.map_set]
    refine List.ext_getElem? fun i => ?_
    by_cases e : j = i
    · subst e
      rw [List.getElem?_set_self (by simpa using hlt), List.getElem?_map, hj]
      rfl
    · rw [List.getElem?_set_ne e]
  have nd := M.nd
  rw [List.map_cons, List.nodup_cons] at nd
  have msn : ∀ q ∈ ms, q.1 ≠ x ∧ H q.1 = none := fun q hq => by
    have h1 : q.1 ≠ x := fun e => nd.1 (List.mem_map.mpr ⟨q, hq, e⟩)
    have h2 := (M.at_ q (List.mem_cons_of_mem _ hq)).1
    rw [er_ne h1] at h2
    exact ⟨h1, h2⟩
  refine ⟨sm, ?_, fun q hq => ?_⟩
  · rw [List.map_append, List.nodup_append]
    refine ⟨by rw [hm]; exact L.nd, nd.2, fun a ha b hb e => ?_⟩
    subst e
    rw [hm] at ha
    obtain ⟨y, hy, rfl⟩ := List.mem_map.mp ha
    obtain ⟨z, hz, e⟩ := List.mem_map.mp hb
    have h1 := (L.at_ y hy).2
    have h2 := (msn z hz).2
    rw [e, h1] at h2
    cases h2
  · rcases List.mem_append.mp hq with h | h
    · obtain ⟨i, hi⟩ := List.getElem?_of_mem h
      by_cases e : j = i
      · subst e
        rw [List.getElem?_set_self hlt] at hi
        cases hi
        exact ⟨hx0, (M.at_ _ List.mem_cons_self).2⟩
      · rw [List.getElem?_set_ne e] at hi
        have ne : q.1 ≠ x := fun z => e (nd_ix L.nd (by rw [List.getElem?_map, hj]; rfl) (by rw [List.getElem?_map, hi]; simp [z]))
        have hq := L.at_ q (List.mem_of_getElem? hi)
        exact ⟨hq.1, M.same _ _ (by rw [er_ne ne]; exact hq.2)⟩
    · exact ⟨L.same.free (msn q h).2, (M.at_ q (List.mem_cons_of_mem _ h)).2⟩
theorem Loc.nil (L : Loc H0 H ls) : Loc H0 H [] := L.sub (List.nil_sublist _)
theorem Loc.then (L : Loc H0 H ls) (M : Loc H H' ms) : Loc H0 H' ms := L.nil.calls M
theorem same_er (h : Same H H') (x : Addr) : Same (er H x) (er H' x) := fun b u e => by
  obtain ⟨h1, h2⟩ := er_some e
  rw [er_ne h1]
  exact h b u h2
theorem same_er' (h : Same (er H x) H') : Same (er H x) (er H' x) := fun b u e => by
  obtain ⟨h1, h2⟩ := er_some e
  rw [er_ne h1]
  exact h b u e
theorem same_unEr (x : Addr) : Same (er H x) H := fun b u e => (er_some e).2
theorem SqL.erOf {C dx : Addr} {fs : List (Str × V)} (h : SqL K H p xs) (hx : H x = some (.ins C dx fs)) : SqL K (er H x) p xs := by
  rcases h with (h | ⟨u, h⟩) | h
  · exact .inl (.inl (by rw [er_ne (ne_of h hx (by intro z; cases z))]; exact h))
  · exact .inl (.inr ⟨u, by rw [er_ne (ne_of h hx (by intro z; cases z))]; exact h⟩)
  · exact .inr h
theorem er_keep (h : SqL K H p xs) (ne : p ≠ x) : SqL K (er H x) p xs := by
  rcases h with (h | ⟨u, h⟩) | h
  · exact .inl (.inl (by rw [er_ne ne]; exact h))
  · exact .inl (.inr ⟨u, by rw [er_ne ne]; exact h⟩)
  · exact .inr h
/-- a list that stands apart from an own object -/
theorem Loc.lstE (L : Loc H0 H ls) (i j : Nat) (hx : ls[i]? = some (x, o)) (hp : ls[j]? = some (p, .lst xs)) (hij : i ≠ j := by decide) : SqL K (er H x) p xs := by
  refine SqL.of ?_
  have ne : p ≠ x := fun z => hij (nd_ix L.nd (by rw [List.getElem?_map, hx]; rfl) (by rw [List.getElem?_map, hp]; simp [z]))
  rw [er_ne ne]
  exact L.get j hp
/-- what was handed in stands apart from an own object -/
theorem Loc.argE (L : Loc H0 H ls) (i : Nat) (hx : ls[i]? = some (x, o)) (h : SqL K H0 p xs) : SqL K (er H x) p xs := by
  refine Same.seq (fun b u e => ?_) h
  rw [er_ne (ne_of_none e (L.fresh i hx))]
  exact L.same b u e
end
/-! ### the heap without what is to be avoided -/
open Classical in
noncomputable def res (H : Hp) (av : Addr → Prop) : Hp := fun b => if av b then none else H b
section
variable {H0 H H' : Hp} {ls ms : List (Addr × HO)} {x p : Addr} {o : HO} {K : PySem.W.Frag} {xs : List V} {av : Addr → Prop}
theorem res_some {b : Addr} (h : res H av b = some o) : ¬ av b ∧ H b = some o := by
  unfold res at h
  split at h
  · cases h
  · exact ⟨by assumption, h⟩
theorem res_out {b : Addr} (h : ¬ av b) : res H av b = H b := if_neg h
theorem res_up : Same (res H av) H := fun b u e => (res_some e).2
theorem res_false (H : Hp) : res H (fun _ => False) = H := funext fun b => if_neg id
theorem res_er (h : Same (er H x) H') : Same (er (res H av) x) (er (res H' av) x) := fun b u e => by
  obtain ⟨h1, h2⟩ := er_some e
  obtain ⟨h3, h4⟩ := res_some h2
  rw [er_ne h1, res_out h3]
  exact h b u (by rw [er_ne h1]; exact h4)
theorem res_mono (h : Same H H') : Same (er (res H av) x) (er (res H' av) x) := res_er fun b u e => h b u (er_some e).2
theorem res_same (h : Same H H') : Same (res H av) (res H' av) := fun b u e => by
  obtain ⟨h3, h4⟩ := res_some e
  rw [res_out h3]
  exact h b u h4
theorem res_off {y : Addr} (h : ∀ b, b ≠ x → H' b = H b) : ∀ b, b ≠ x → res H' av b = res H av b := fun b hb => by
  unfold res
  split
  · rfl
  · exact h b hb
theorem avNext (hav : ∀ b, av b → H b ≠ none) (L : Loc (er H x) H' ((x, o) :: ms)) : ∀ b, av b → H' b ≠ none := fun b hb => by
  by_cases e : b = x
  · rw [e, (L.at_ _ List.mem_cons_self).2]; exact fun z => by cases z
  · intro z
    cases q : H b with
    | none => exact hav b hb q
    | some u =>
      have := L.same b u (by rw [er_ne e]; exact q)
      rw [z] at this
      cases this
theorem avSame (hav : ∀ b, av b → H b ≠ none) (h : Same H H') : ∀ b, av b → H' b ≠ none := fun b hb z => hav b hb (h.free z)
theorem Loc.lstR (L : Loc (er H x) H' ls) (hav : ∀ b, av b → H b ≠ none) (i j : Nat) (hx : ls[i]? = some (x, o)) (hp : ls[j]? = some (p, .lst xs)) (hij : i ≠ j := by decide) : SqL K (er (res H' av) x) p xs := by
  have ne : p ≠ x := fun z => hij (nd_ix L.nd (by rw [List.getElem?_map, hx]; rfl) (by rw [List.getElem?_map, hp]; simp [z]))
  refine SqL.of ?_
  rw [er_ne ne, res_out fun z => hav p z (by have := L.fresh j hp; rwa [er_ne ne] at this)]
  exact L.get j hp
/-- a list that is fresh or of old stands off what is avoided -/
theorem sq_res (h : SqL K H' p xs) (hn : H p = none) (hav : ∀ b, av b → H b ≠ none) (hx : p ≠ x) : SqL K (er (res H' av) x) p xs := by
  have e : er (res H' av) x p = H' p := by rw [er_ne hx, res_out fun z => hav p z hn]
  rcases h with (h | ⟨u, h⟩) | h
  · exact .inl (.inl (by rw [e]; exact h))
  · exact .inl (.inr ⟨u, by rw [e]; exact h⟩)
  · exact .inr h
end
/-! ### readings -/
section
variable {σ : L2.St} {H H0 : Hp} {Q : VK} {v : V} {i : Nat} {r : R2} {ta tb : TE} {K : PySem.W.Frag} {ls : List (Addr × HO)} {p : Addr} {D : Ends} {R : Bool → Hp → Prop}
def GetF (K : PySem.W.Frag) (f : Str) (x : V) (H : Hp) (Q : VK) : Prop := ∃ a C dx fs v, x = .ref a ∧ H a = some (.ins C dx fs) ∧ Cls K C ∧ NoAttr K C f ∧ fs.lookup f = some v ∧ Q v H
theorem r_fld {f : Str} (q : ta σ H fun x H1 => GetF K f x H1 Q) : tFld K ta f σ H Q := q
theorem r_getF {f : Str} {a C dx : Addr} {fs : List (Str × V)} (h : H a = some (.ins C dx fs)) (c : Cls K C) (n : NoAttr K C f) (l : fs.lookup f = some v) (q : Q v H) : GetF K f (.ref a) H Q := ⟨a, C, dx, fs, v, rfl, h, c, n, l, q⟩
def PutFld (K : PySem.W.Frag) (f : Str) (y x : V) (H : Hp) (R : Hp → Prop) : Prop := ∃ a C dx fs, x = .ref a ∧ H a = some (.ins C dx fs) ∧ Cls K C ∧ NoAttr K C f ∧ fs.length < 1000 ∧ R (upd H a (.ins C dx (putF f y fs)))
theorem s_fld {f : Str} {tv : TE} (q : tv σ H fun y H1 => ta σ H1 fun x H2 => PutFld K f y x H2 fun H3 => D.nx σ H3) : sFld K ta tv f D σ H := q
theorem r_putF {f : Str} {a C dx : Addr} {fs : List (Str × V)} {y : V} {R : Hp → Prop} (L : Loc H0 H ls) (j : Nat) (hj : ls[j]? = some (a, .ins C dx fs)) (c : Cls K C) (n : NoAttr K C f) (hl : fs.length < 1000)
    (q : ∀ H', Loc H0 H' (ls.set j (a, .ins C dx (putF f y fs))) → R H') : PutFld K f y (.ref a) H R := ⟨a, C, dx, fs, rfl, L.get j hj, c, n, hl, q _ (L.put j hj)⟩
def AtM (C : Addr) (m : Str) (x : V) (H : Hp) (R : Prop) : Prop := ∃ a dx fs, x = .ref a ∧ H a = some (.ins C dx fs) ∧ fs.lookup m = none ∧ R
theorem r_meth {C : Addr} {m : Str} {sp : Sp} {dvs : List V} {E : XK} {t : TA} (q : ta σ H fun x H1 => AtM C m x H1 (t σ H1 fun vs H2 => sp (x :: (vs ++ dvs)) H2 Q E)) : tMeth C m sp dvs E ta t σ H Q := q
theorem r_atM {C : Addr} {m : Str} {a dx : Addr} {fs : List (Str × V)} {R : Prop} (h : H a = some (.ins C dx fs)) (l : fs.lookup m = none) (q : R) : AtM C m (.ref a) H R := ⟨a, dx, fs, rfl, h, l, q⟩
theorem r_listT {xs : List V} {a : Addr} (L : Loc H0 H ls) (h : SqT K H a xs) (q : ∀ p H', Loc H0 H' (ls ++ [(p, .lst xs)]) → Q (.ref p) H') : RList K [.ref a] H Q :=
  ⟨a, xs, rfl, .inr h, fun p hp => q p _ (L.new hp)⟩
def NewI (C : Addr) (sp : Sp) (vs : List V) (H : Hp) (Q : VK) (E : XK) : Prop := ∀ x dx, H x = none → H dx = none → dx ≠ x → sp (.ref x :: vs) (upd (upd H dx (.own x)) x (.ins C dx [])) (fun v H2 => v = .non ∧ Q (.ref x) H2) E
theorem r_make {C : Addr} {sp : Sp} {dvs : List V} {E : XK} {t : TA} (q : t σ H fun vs H1 => NewI C sp (vs ++ dvs) H1 Q E) : tMake C sp dvs E t σ H Q := q
theorem r_newI {C : Addr} {sp : Sp} {vs : List V} {E : XK} (L : Loc H0 H ls) (q : ∀ x dx H', Loc H0 H' (ls ++ [(dx, .own x), (x, .ins C dx [])]) → sp (.ref x :: vs) H' (fun v H2 => v = .non ∧ Q (.ref x) H2) E) : NewI C sp vs H Q E := fun x dx hx hdx ne => by
  have L1 := L.new (o := .own x) hdx
  have hx1 : upd H dx (.own x) x = none := by rw [upd_ne (fun z => ne z.symm)]; exact hx
  have L2 := L1.new (o := .ins C dx []) hx1
  rw [List.append_assoc] at L2
  exact q x dx _ L2
theorem r_catK {xs ys : List V} {a b : Addr} (L : Loc H0 H ls) (ha : SqL K H a xs) (hb : SqL K H b ys) (hz : xs.length + ys.length ≤ sizeLine) (q : ∀ p H', Loc H0 H' (ls ++ [(p, .lst (xs ++ ys))]) → Q (.ref p) H') : rCatK K (.ref a) (.ref b) H Q :=
  ⟨a, b, xs, ys, rfl, rfl, ha, hb, hz, fun p hp => q p _ (L.new hp)⟩
theorem r_catO {xs ys : List V} {a b : Addr} (L : Loc H0 H ls) (ha : H a = some (.lst xs)) (hb : H b = some (.lst ys)) (hz : xs.length + ys.length ≤ sizeLine) (q : ∀ p H', Loc H0 H' (ls ++ [(p, .lst (xs ++ ys))]) → Q (.ref p) H') : rCatK K (.ref a) (.ref b) H Q :=
  r_catK L (SqL.of ha) (SqL.of hb) hz q
theorem r_cat2 {xs ys : List Nat} {a b : Addr} (L : Loc H0 H ls) (ha : SqL K H a (nv xs)) (hb : SqL K H b (nv ys)) (hz : xs.length + ys.length ≤ sizeLine) (q : ∀ p H', Loc H0 H' (ls ++ [(p, .lst (nv (xs ++ ys)))]) → Q (.ref p) H') : rCatK K (.ref a) (.ref b) H Q :=
  r_catK L ha hb (by rw [nv_len, nv_len]; exact hz) (by rw [← nv_app]; exact q)
theorem flat_one (n : Nat) (x : V) : (List.replicate n [x]).flatten = List.replicate n x := by
  induction n with
  | zero => rfl
  | succ n ih => rw [List.replicate_succ, List.flatten_cons, ih, List.replicate_succ]; rfl
theorem nv_rep (n x : Nat) : nv (List.replicate n x) = List.replicate n (V.int (x : Int)) := by simp [nv]
theorem r_rep {x n : Nat} {a : Addr} (L : Loc H0 H ls) (j : Nat) (hj : ls[j]? = some (a, .lst (nv [x]))) (hn : n ≤ sizeLine) (q : ∀ p H', Loc H0 H' (ls ++ [(p, .lst (nv (List.replicate n x)))]) → Q (.ref p) H') : rRep (.ref a) (.int (n : Int)) H Q := by
  have := sizeLine_eq
  refine ⟨a, n, nv [x], rfl, rfl, L.get j hj, by omega, by omega, by rw [nv_len]; simp; omega, fun p hp => q p _ ?_⟩
  have e : (List.replicate (n : Int).toNat (nv [x])).flatten = nv (List.replicate n x) := by rw [Int.toNat_natCast, nv_rep]; exact flat_one n _
  rw [e]
  exact L.new hp
theorem r_shrN {a b : Nat} (q : Q (.int ((a / 2 ^ b : Nat) : Int)) H) : rI (fun _ j => 0 ≤ j) (fun i j => .int (i / 2 ^ j.toNat)) (.int (a : Int)) (.int (b : Int)) H Q := by
  refine r_i2c (by omega) ?_
  rw [Int.toNat_natCast, show ((a : Int) / 2 ^ b) = ((a / 2 ^ b : Nat) : Int) by rw [Int.natCast_ediv, Int.natCast_pow]; rfl]
  exact q
theorem r_shlW {a b : Nat} (h1 : b ≤ 1000000) (h2 : a < 2 ^ 4096) (q : Q (.int ((a * 2 ^ b : Nat) : Int)) H) : rI CShl (fun i j => .int (i * 2 ^ j.toNat)) (.int (a : Int)) (.int (b : Int)) H Q := by
  refine r_i2c ⟨by omega, by omega, by rw [Int.natAbs_natCast]; exact h2⟩ ?_
  rw [Int.toNat_natCast, Bits.natCast_mul_pow]
  exact q
theorem r_andN {a b : Nat} (q : Q (.int ((a &&& b : Nat) : Int)) H) : rI0 (fun i j => .int (Builtin.bitAnd i j)) (.int (a : Int)) (.int (b : Int)) H Q := by
  refine r_i2 ?_
  rw [bitAnd_pp (Int.natCast_nonneg a) (Int.natCast_nonneg b), Int.toNat_natCast, Int.toNat_natCast]
  exact q
theorem r_orN {a b : Nat} (q : Q (.int ((a ||| b : Nat) : Int)) H) : rI0 (fun i j => .int (Builtin.bitOr i j)) (.int (a : Int)) (.int (b : Int)) H Q := by
  refine r_i2 ?_
  rw [Bits.bitOr_pp (Int.natCast_nonneg a) (Int.natCast_nonneg b), Int.toNat_natCast, Int.toNat_natCast]
  exact q
theorem r_subN {a b : Nat} (h : b ≤ a) (q : Q (.int ((a - b : Nat) : Int)) H) : rI0 (fun i j => .int (i - j)) (.int (a : Int)) (.int (b : Int)) H Q := by
  refine r_i2 ?_
  rw [show (a : Int) - (b : Int) = ((a - b : Nat) : Int) by omega]
  exact q
theorem r_le {a b : Nat} (q : Q (.bl (decide (a ≤ b))) H) : rI0 (fun i j => .bl (decide (i ≤ j))) (.int (a : Int)) (.int (b : Int)) H Q := by
  refine r_i2 ?_
  rw [show (decide ((a : Int) ≤ (b : Int))) = decide (a ≤ b) by simp]
  exact q
theorem r_gt {a b : Nat} (q : Q (.bl (decide (b < a))) H) : rI0 (fun i j => .bl (decide (j < i))) (.int (a : Int)) (.int (b : Int)) H Q := by
  refine r_i2 ?_
  rw [show (decide ((b : Int) < (a : Int))) = decide (b < a) by simp]
  exact q
theorem r_ge {a b : Nat} (q : Q (.bl (decide (b ≤ a))) H) : rI0 (fun i j => .bl (decide (j ≤ i))) (.int (a : Int)) (.int (b : Int)) H Q := by
  refine r_i2 ?_
  rw [show (decide ((b : Int) ≤ (a : Int))) = decide (b ≤ a) by simp]
  exact q
theorem r_tB {t : TE} (q : t σ H fun x H1 => ∃ c, x = .bl c ∧ R c H1) : tB t σ H R := q
theorem r_tNot {t : TT} (q : t σ H fun c H1 => R (!c) H1) : tNot t σ H R := q
theorem r_tOr {t u : TT} (q : t σ H fun c H1 => if c = true then R true H1 else u σ H1 R) : tOr t u σ H R := q
theorem r_andV (q : ta σ H fun x H1 => ∃ c, x = .bl c ∧ if c = true then tb σ H1 Q else Q (.bl false) H1) : tAndV ta tb σ H Q := q
theorem r_chain {r r' : R2} {tc : TE} (q : ta σ H fun x H1 => tb σ H1 fun y H2 => r x y H2 fun z H3 => ∃ k, z = .bl k ∧ (if k = true then tc σ H3 fun w' H4 => r' y w' H4 Q else Q (.bl false) H3)) : tChain r r' ta tb tc σ H Q := q
theorem r_tTru (q : ta σ H fun x H' => ∃ k, TruV K x H' k ∧ R k H') : tTru K ta σ H R := q
theorem r_truN {a : Nat} {R : Bool → Prop} (q : R (!decide (a = 0))) : ∃ k, TruV K (.int (a : Int)) H k ∧ R k := by
  refine ⟨_, rfl, ?_⟩
  have e : ((a : Int) != 0) = !decide (a = 0) := by
    by_cases h : a = 0
    · subst h; rfl
    · rw [show decide (a = 0) = false by simpa using h]
      simp only [bne, Bool.not_false, Bool.not_eq_true', beq_eq_false_iff_ne, ne_eq]
      omega
  rw [e]
  exact q
theorem r_tupl {T : Addr} {x y : V} {n : Nat} {t : TGs} {R : L2.St → Hp → Prop} (h : SqT K H T [x, y]) (hn : 2 = n) (q : t [x, y] σ H R) : gTup K n t (.ref T) σ H R := ⟨T, _, rfl, h, hn, q⟩
theorem r_gcons {g : TG} {u : TGs} {v : V} {vs : List V} {R : L2.St → Hp → Prop} (q : g v σ H fun σ' H' => u vs σ' H' R) : gCons g u (v :: vs) σ H R := ⟨v, vs, rfl, q⟩
theorem r_gnil {R : L2.St → Hp → Prop} (q : R σ H) : gNil [] σ H R := ⟨rfl, q⟩
theorem r_izip {t : TA} {R : It → Hp → Prop} (q : t σ H fun vs H1 => ∃ a b xs ys, vs = [.ref a, .ref b] ∧ SqL K H1 a xs ∧ SqL K H1 b ys ∧ R (Itz K a b) H1) : iZip K t σ H R := q
theorem r_zipAt {a b : Addr} {xs ys : List V} {R : Addr → Addr → Prop} (h1 : SqL K H a xs) (h2 : SqL K H b ys) (q : R a b) : ∃ a' b' xs ys, [V.ref a, V.ref b] = [.ref a', .ref b'] ∧ SqL K H a' xs ∧ SqL K H b' ys ∧ R a' b' := ⟨a, b, xs, ys, rfl, h1, h2, q⟩
theorem r_ixR {as : List Addr} {n : Nat} {a : Addr} (hs : SqL K H p (as.map V.ref)) (h : as[n]? = some a) (q : Q (.ref a) H) : rIxL K (.ref p) (.int (n : Int)) H Q :=
  ⟨p, _, n, _, rfl, rfl, hs, at_of rfl (by rw [List.getElem?_map, h]; rfl), q⟩
end
/-! ### walks over two lists side by side -/
section
variable {g : TG} {tb : TS} {σ : L2.St} {H : Hp} {nx : L2.St → Hp → Prop} {rt : VK} {K : PySem.W.Frag} {a b : Addr} {xs ys : List V}
theorem upd_same' {H : Hp} {T : Addr} {o : HO} (h : H T = none) : Same H (upd H T o) := fun b u e => by rw [upd_ne (ne_of_none e h)]; exact e
theorem f_zip (n : Nat) (hn : n = min xs.length ys.length) (Pv : Nat → L2.St → Hp → Prop) (h0 : Pv 0 σ H) (hl : ∀ i σ H, i ≤ n → Pv i σ H → SqL K H a xs ∧ SqL K H b ys)
    (hs : ∀ i x y σ H T, i < n → xs[i]? = some x → ys[i]? = some y → Pv i σ H → H T = none → g (.ref T) σ (upd H T (.tup [x, y])) fun σ2 H2 => tb { nx := Pv (i + 1), rt := rt, bk := nx, ct := Pv (i + 1) } σ2 H2) (hd : ∀ σ H, Pv n σ H → nx σ H) :
    ∃ W : Nat → Nat → L2.St → Hp → Prop, (∃ m, W 0 m σ H) ∧ ∀ i m σ H, W i m σ H →
      ((Itz K a b).stop i H ∧ nx σ H) ∨ ((Itz K a b).go i H ∧ ∃ N : L2.St → Hp → Prop, (∀ σ' H', N σ' H' → ∃ m', m' < m ∧ W (i + 1) m' σ' H') ∧ ∀ x H', (Itz K a b).yld i H x H' → g x σ H' fun σ2 H2 => tb { nx := N, rt := rt, bk := nx, ct := N } σ2 H2) := by
  refine ⟨fun i m σ H => m = n - i ∧ i ≤ n ∧ Pv i σ H, ⟨n, by simp, Nat.zero_le _, h0⟩, ?_⟩
  rintro i m σ H ⟨rfl, hi, p⟩
  obtain ⟨h1, h2⟩ := hl i σ H hi p
  by_cases hlt : i < n
  · have hx : xs[i]? = some xs[i] := List.getElem?_eq_getElem (by omega)
    have hy : ys[i]? = some ys[i] := List.getElem?_eq_getElem (by omega)
    refine .inr ⟨⟨xs, ys, _, _, h1, h2, hx, hy⟩, Pv (i + 1), fun σ' H' p' => ⟨n - (i + 1), by omega, rfl, hlt, p'⟩, ?_⟩
    rintro v H' ⟨T, x, y, rfl, hT, rfl, q1, q2⟩
    exact hs i x y σ H T hlt (q1 _ h1) (q2 _ h2) p hT
  · have e : i = n := by omega
    subst e
    refine .inl ⟨⟨xs, ys, h1, h2, by omega⟩, hd σ H p⟩
end
/-! ### comprehensions: numbers over two lists; lists over a range -/
section
variable {s s2 : Nat} {te : TE} {σ : L2.St} {H H0 H1 : Hp} {K : PySem.W.Frag} {a b : Addr} {Q : VK} {ls : List (Addr × HO)}
theorem wipe_two (σ : L2.St) (s t : Nat) (u v : Option V) : wipe (((wipe σ [s, t]).set s u).set t v) [s, t] = wipe σ [s, t] := by
  refine List.ext_getElem? fun i => ?_
  simp only [wipe, List.foldl_cons, List.foldl_nil, List.getElem?_set, List.length_set]
  by_cases h1 : t = i
  · subst h1
    by_cases h3 : t < σ.length
    · simp [h3]
    · simp [h3]
  · by_cases h2 : s = i
    · subst h2
      simp [h1]
    · simp [h1, h2]
theorem lc_z {xs ys : List Nat} (L : Loc H0 H1 ls) (ha : SqL K H1 a (nv xs)) (hb : SqL K H1 b (nv ys)) (hxy : xs.length = ys.length) (hz : xs.length ≤ sizeLine) (f : Nat → Nat)
    (he : ∀ (i : Nat), i < xs.length → ∀ (H : Hp) (D T : Addr) (o o' : HO) (R : VK), Loc H0 H (ls ++ [(D, o), (T, o')]) → R (.int ((f i : Nat) : Int)) H → te (((wipe σ [s, s2]).set s (some (.int ((xs.getD i 0 : Nat) : Int)))).set s2 (some (.int ((ys.getD i 0 : Nat) : Int)))) H R)
    (q : ∀ D H', Loc H0 H' (ls ++ [(D, .lst (nv ((List.range xs.length).map f)))]) → Q (.ref D) H') : LcGo (Itz K a b) (gTup K 2 (gCons (gName s) (gCons (gName s2) gNil))) tYes te [s, s2] σ H1 Q := by
  intro D hD
  have M0 : Loc H1 (upd H1 D (.lst (nv ((List.range 0).map f)))) [(D, .lst (nv ((List.range 0).map f)))] := Loc.one hD
  refine ⟨fun i m H => m = xs.length - i ∧ i ≤ xs.length ∧ Loc H1 H [(D, .lst (nv ((List.range i).map f)))], ⟨xs.length, by simp, Nat.zero_le _, M0⟩, ?_⟩
  rintro i m H ⟨rfl, hi, M⟩
  have h1 := M.arg ha
  have h2 := M.arg hb
  by_cases hlt : i < xs.length
  · refine .inr ⟨⟨_, _, _, _, h1, h2, nv_get hlt, nv_get (by omega)⟩, fun H' => Loc H1 H' [(D, .lst (nv ((List.range (i + 1)).map f)))], fun H' M' => ⟨xs.length - (i + 1), by omega, rfl, hlt, M'⟩, ?_⟩
    rintro v H' ⟨T, x, y, rfl, hT, rfl, q1, q2⟩
    obtain ⟨_, rfl⟩ := nv_of_get (q1 _ h1)
    obtain ⟨_, rfl⟩ := nv_of_get (q2 _ h2)
    have M1 := M.new (o := .tup [V.int ((xs.getD i 0 : Nat) : Int), V.int ((ys.getD i 0 : Nat) : Int)]) hT
    refine ⟨T, _, rfl, .inl (.inl (M1.get 1 rfl)), rfl, _, _, rfl, _, _, rfl, rfl, ?_⟩
    refine ⟨wipe_two σ s s2 _ _, ?_⟩
    show te _ _ _
    refine he i hlt _ D T _ _ _ (L.calls M1) ⟨_, M1.get 0 rfl, ?_, ?_⟩
    · rw [nv_len, List.length_map, List.length_range]; omega
    · have := M1.put (o' := .lst (nv ((List.range i).map f) ++ [.int ((f i : Nat) : Int)])) 0 rfl
      rw [nv_snoc] at this
      rw [List.range_succ, List.map_append]
      rw [nv_snoc]
      exact this.take 1
  · have e : i = xs.length := by omega
    subst e
    exact .inl ⟨⟨_, _, h1, h2, .inl (by rw [nv_len]; exact Nat.le_refl _)⟩, q D H (L.calls M)⟩
/-- numbers, worked out by calls -/
theorem lc_turnC {n : Nat} {f : Nat → Nat} {J : It} (L : Loc H0 H1 ls) (hz : n ≤ sizeLine) (xv : Nat → V)
    (hgo : ∀ (i : Nat) (H : Hp), i < n → Same H1 H → J.go i H) (hstop : ∀ (H : Hp), Same H1 H → J.stop n H) (hy : ∀ (i : Nat) (H H' : Hp) (x : V), i < n → Same H1 H → J.yld i H x H' → H' = H ∧ x = xv i)
    (he : ∀ (i : Nat), i < n → ∀ (H : Hp) (R : VK), Same H1 H → (∀ H' ms, Loc H H' ms → R (.int ((f i : Nat) : Int)) H') → te ((σ.set s none).set s (some (xv i))) H R)
    (q : ∀ D H', Loc H0 H' (ls ++ [(D, .lst (nv ((List.range n).map f)))]) → Q (.ref D) H') : LcGo J (gName s) tYes te [s] σ H1 Q := by
  intro D hD
  have M0 : Loc H1 (upd H1 D (.lst (nv ((List.range 0).map f)))) [(D, .lst (nv ((List.range 0).map f)))] := Loc.one hD
  refine ⟨fun i m H => m = n - i ∧ i ≤ n ∧ Loc H1 H [(D, .lst (nv ((List.range i).map f)))], ⟨n, by simp, Nat.zero_le _, M0⟩, ?_⟩
  rintro i m H ⟨rfl, hi, M⟩
  by_cases hlt : i < n
  · refine .inr ⟨hgo i H hlt M.same, fun H' => Loc H1 H' [(D, .lst (nv ((List.range (i + 1)).map f)))], fun H' M' => ⟨n - (i + 1), by omega, rfl, hlt, M'⟩, fun x H' y => ?_⟩
    obtain ⟨rfl, rfl⟩ := hy i H H' x hlt M.same y
    refine ⟨wipe_self σ s _, ?_⟩
    show te _ _ _
    refine he i hlt _ _ M.same fun H2 ms M2 => ?_
    have M3 := M.calls M2
    refine ⟨_, M3.get 0 rfl, ?_, ?_⟩
    · rw [nv_len, List.length_map, List.length_range]; omega
    · have := M3.put (o' := .lst (nv ((List.range i).map f) ++ [.int ((f i : Nat) : Int)])) 0 rfl
      rw [nv_snoc] at this
      rw [List.range_succ, List.map_append]
      rw [nv_snoc]
      exact this.take 1
  · have e : i = n := by omega
    subst e
    exact .inl ⟨hstop H M.same, q D H (L.calls M)⟩
theorem lc_rC {n : Nat} {lo : Int} (L : Loc H0 H1 ls) (hz : n ≤ sizeLine) (f : Nat → Nat)
    (he : ∀ (i : Nat), i < n → ∀ (H : Hp) (R : VK), Same H1 H → (∀ H' ms, Loc H H' ms → R (.int ((f i : Nat) : Int)) H') → te ((σ.set s none).set s (some (.int (lo + i)))) H R)
    (q : ∀ D H', Loc H0 H' (ls ++ [(D, .lst (nv ((List.range n).map f)))]) → Q (.ref D) H') : LcGo (Itr lo n) (gName s) tYes te [s] σ H1 Q :=
  lc_turnC L hz (fun i => .int (lo + i)) (fun i H hi _ => hi) (fun H _ => Nat.le_refl n) (fun i H H' x hi _ y => ⟨y.1, y.2⟩) he q
theorem lc_rCC {n : Nat} {lo c : Int} (L : Loc H0 H1 ls) (hz : n ≤ sizeLine) (f : Nat → Nat)
    (he : ∀ (i : Nat), i < n → ∀ (H : Hp) (R : VK), Same H1 H → (∀ H' ms, Loc H H' ms → R (.int ((f i : Nat) : Int)) H') → te ((σ.set s none).set s (some (.int (lo + (i : Nat) * c)))) H R)
    (q : ∀ D H', Loc H0 H' (ls ++ [(D, .lst (nv ((List.range n).map f)))]) → Q (.ref D) H') : LcGo (Itc lo c n) (gName s) tYes te [s] σ H1 Q :=
  lc_turnC L hz (fun i => .int (lo + (i : Nat) * c)) (fun i H hi _ => hi) (fun H _ => Nat.le_refl n) (fun i H H' x hi _ y => ⟨y.1, y.2⟩) he q
/-! ### rows: a list of lists of numbers -/
def rowO (as : List Addr) (rows : List (List Nat)) : List (Addr × HO) := List.zipWith (fun a r => (a, HO.lst (nv r))) as rows
def refs (as : List Addr) : List V := as.map V.ref
theorem refs_len (as : List Addr) : (refs as).length = as.length := by simp [refs]
theorem refs_app (as bs : List Addr) : refs as ++ refs bs = refs (as ++ bs) := by simp [refs]
theorem rowO_snoc {as : List Addr} {rows : List (List Nat)} {a : Addr} {r : List Nat} (h : as.length = rows.length) : rowO (as ++ [a]) (rows ++ [r]) = rowO as rows ++ [(a, .lst (nv r))] := by
  unfold rowO
  rw [List.zipWith_append h]
  rfl
structure Rows (K : PySem.W.Frag) (H : Hp) (p : Addr) (as : List Addr) (rows : List (List Nat)) : Prop where
  lst : SqL K H p (refs as)
  len : as.length = rows.length
  at_ : ∀ (i : Nat) (a : Addr) (r : List Nat), as[i]? = some a → rows[i]? = some r → H a = some (.lst (nv r))
theorem Rows.mono {H H' : Hp} {p : Addr} {as : List Addr} {rows : List (List Nat)} (h : Rows K H p as rows) (e : Same H H') : Rows K H' p as rows :=
  ⟨e.seq h.lst, h.len, fun i a r h1 h2 => e _ _ (h.at_ i a r h1 h2)⟩
theorem rowO_at {as : List Addr} {rows : List (List Nat)} {i : Nat} {a : Addr} {r : List Nat} (h1 : as[i]? = some a) (h2 : rows[i]? = some r) : (rowO as rows)[i]? = some (a, .lst (nv r)) := by
  unfold rowO
  rw [List.getElem?_zipWith, h1, h2]
theorem Loc.rows {H0 H : Hp} {ls : List (Addr × HO)} {p : Addr} {as : List Addr} {rows : List (List Nat)} (L : Loc H0 H ls) (h : SqL K H p (refs as)) (hl : as.length = rows.length) (hm : ∀ x ∈ rowO as rows, x ∈ ls) : Rows K H p as rows :=
  ⟨h, hl, fun i a r h1 h2 => (L.at_ (a, .lst (nv r)) (hm _ (List.mem_of_getElem? (rowO_at h1 h2)))).2⟩
theorem lc_rows {n : Nat} {row : Nat → List Nat} {J : It} (L : Loc H0 H1 ls) (hz : n ≤ sizeLine) (xv : Nat → V)
    (hgo : ∀ (i : Nat) (H : Hp), i < n → Same H1 H → J.go i H) (hstop : ∀ (H : Hp), Same H1 H → J.stop n H) (hy : ∀ (i : Nat) (H H' : Hp) (x : V), i < n → Same H1 H → J.yld i H x H' → H' = H ∧ x = xv i)
    (he : ∀ (i : Nat), i < n → ∀ (H : Hp) (R : VK), Same H1 H → (∀ p H', Loc H H' [(p, .lst (nv (row i)))] → R (.ref p) H') → te ((σ.set s none).set s (some (xv i))) H R)
    (q : ∀ D as H', as.length = n → Loc H0 H' (ls ++ (D, .lst (refs as)) :: rowO as ((List.range n).map row)) → Q (.ref D) H') : LcGo J (gName s) tYes te [s] σ H1 Q := by
  intro D hD
  refine ⟨fun i m H => m = n - i ∧ i ≤ n ∧ ∃ as, as.length = i ∧ Loc H1 H ((D, .lst (refs as)) :: rowO as ((List.range i).map row)), ⟨n, by simp, Nat.zero_le _, [], rfl, Loc.one hD⟩, ?_⟩
  rintro i m H ⟨rfl, hi, as, hl, M⟩
  by_cases hlt : i < n
  · refine .inr ⟨hgo i H hlt M.same, fun H' => ∃ as, as.length = i + 1 ∧ Loc H1 H' ((D, .lst (refs as)) :: rowO as ((List.range (i + 1)).map row)), fun H' M' => ⟨n - (i + 1), by omega, rfl, hlt, M'⟩, fun x H' y => ?_⟩
    obtain ⟨rfl, rfl⟩ := hy i H H' x hlt M.same y
    refine ⟨wipe_self σ s _, ?_⟩
    show te _ _ _
    refine he i hlt _ _ M.same fun p H2 M2 => ?_
    have M3 := M.calls M2
    refine ⟨_, M3.get 0 rfl, by rw [refs_len]; omega, as ++ [p], by simp [hl], ?_⟩
    have := M3.put (o' := .lst (refs as ++ [V.ref p])) 0 rfl
    rw [List.range_succ, List.map_append, List.map_cons, List.map_nil, rowO_snoc (by simp [hl]), show refs (as ++ [p]) = refs as ++ [V.ref p] by simp [refs]]
    exact this
  · have e : i = n := by omega
    subst e
    exact .inl ⟨hstop H M.same, q D as H hl (L.calls M)⟩
theorem lc_rowsR {n : Nat} {lo : Int} (L : Loc H0 H1 ls) (hz : n ≤ sizeLine) (row : Nat → List Nat)
    (he : ∀ (i : Nat), i < n → ∀ (H : Hp) (R : VK), Same H1 H → (∀ p H', Loc H H' [(p, .lst (nv (row i)))] → R (.ref p) H') → te ((σ.set s none).set s (some (.int (lo + i)))) H R)
    (q : ∀ D as H', as.length = n → Loc H0 H' (ls ++ (D, .lst (refs as)) :: rowO as ((List.range n).map row)) → Q (.ref D) H') : LcGo (Itr lo n) (gName s) tYes te [s] σ H1 Q :=
  lc_rows L hz (fun i => .int (lo + i)) (fun i H hi _ => hi) (fun H _ => Nat.le_refl n) (fun i H H' x hi _ y => ⟨y.1, y.2⟩) he q
theorem r_index {xs : List Nat} {n : Nat} (j : Nat) (hs : SqL K H a (nv xs)) (hj : j < xs.length) (e : xs.getD j 0 = n) (hno : ∀ m, m < j → xs.getD m 0 ≠ n) (q : Q (.int (j : Int)) H) : rIndex K (.ref a) [.int (n : Int)] H Q := by
  refine ⟨a, nv xs, .int (n : Int), j, _, rfl, rfl, hs, rfl, ?_, nv_get hj, ?_, ?_, q⟩
  · rw [List.all_eq_true]
    intro x hx
    unfold nv at hx
    obtain ⟨y, _, rfl⟩ := List.mem_map.mp hx
    rfl
  · rw [e]
    show ((n : Int) == (n : Int)) = true
    exact beq_self_eq_true _
  · intro m z hm hz
    obtain ⟨_, rfl⟩ := nv_of_get hz
    show (((xs.getD m 0 : Nat) : Int) == (n : Int)) = false
    rw [beq_eq_false_iff_ne]
    intro e
    exact hno m hm (Int.ofNat.inj e)
end
end
section
/-! ### lists of numbers compared -/
theorem op_eqDK {X : Cx} {K : PySem.W.Frag} (h : X.K = K) (hu : X.A.units + 64 < cLine) : OpR X (compareOp .Eq) (rEqD K) := h ▸ op_eqD hu
theorem op_neDK {X : Cx} {K : PySem.W.Frag} (h : X.K = K) (hu : X.A.units + 64 < cLine) : OpR X (compareOp .NotEq) (rNeD K) := h ▸ op_neD hu
def dts (xs : List Nat) : List PyData := xs.map fun (n : Nat) => PyData.int (n : Int)
theorem dp_nv {K : PySem.W.Frag} {H : Hp} : ∀ xs : List Nat, DpAll K H (nv xs) (dts xs)
  | [] => .nil
  | x :: xs => .cons (.int _) (dp_nv xs)
theorem can_dts : ∀ xs : List Nat, PyData.canLayAll0 (dts xs) = true
  | [] => by simp [dts, PyData.canLayAll0]
  | x :: xs => by
    show PyData.canLayAll0 (PyData.int (x : Int) :: dts xs) = true
    rw [PyData.canLayAll0, can_dts xs]
    simp [PyData.canLay0]
theorem depth_dts : ∀ xs : List Nat, PyData.depthAll (dts xs) ≤ 1
  | [] => by simp [dts, PyData.depthAll]
  | x :: xs => by
    have := depth_dts xs
    show PyData.depthAll (PyData.int (x : Int) :: dts xs) ≤ 1
    simp only [PyData.depthAll, PyData.depth]
    omega
theorem shaped_dts (xs : List Nat) : SeqAt.shaped (.list (dts xs)) = true := by
  unfold SeqAt.shaped
  rw [Bool.and_eq_true]
  refine ⟨by rw [PyData.canLay0]; exact can_dts xs, ?_⟩
  have := depth_dts xs
  rw [decide_eq_true_iff]
  simp only [PyData.depth]
  omega
theorem eqv_dts : ∀ xs ys : List Nat, PyData.eqvAll (dts xs) (dts ys) = decide (xs = ys)
  | [], [] => by simp [dts, PyData.eqvAll]
  | [], y :: ys => by simp [dts, PyData.eqvAll]
  | x :: xs, [] => by simp [dts, PyData.eqvAll]
  | x :: xs, y :: ys => by
    show PyData.eqvAll (PyData.int (x : Int) :: dts xs) (PyData.int (y : Int) :: dts ys) = _
    rw [PyData.eqvAll, eqv_dts xs ys]
    simp only [PyData.eqv]
    rw [Bool.eq_iff_iff]
    simp [Int.ofNat_inj]
section
variable {H : Hp} {Q : VK} {K : PySem.W.Frag} {a b : Addr} {xs ys : List Nat}
theorem r_neL (h1 : SqL K H a (nv xs)) (h2 : SqL K H b (nv ys)) (q : Q (.bl (!decide (xs = ys))) H) : rNeD K (.ref a) (.ref b) H Q := by
  refine ⟨_, _, .lst h1 (dp_nv xs), .lst h2 (dp_nv ys), shaped_dts xs, shaped_dts ys, ?_⟩
  rw [show PyData.eqv (.list (dts xs)) (.list (dts ys)) = PyData.eqvAll (dts xs) (dts ys) by simp only [PyData.eqv], eqv_dts]
  exact q
theorem r_eqL (h1 : SqL K H a (nv xs)) (h2 : SqL K H b (nv ys)) (q : Q (.bl (decide (xs = ys))) H) : rEqD K (.ref a) (.ref b) H Q := by
  refine ⟨_, _, .lst h1 (dp_nv xs), .lst h2 (dp_nv ys), shaped_dts xs, shaped_dts ys, ?_⟩
  rw [show PyData.eqv (.list (dts xs)) (.list (dts ys)) = PyData.eqvAll (dts xs) (dts ys) by simp only [PyData.eqv], eqv_dts]
  exact q
theorem r_isN {v : V} (q : Q (.bl (decide (v = .non))) H) : (fun x y H Q => y = V.non ∧ Q (.bl (decide (x = .non))) H : R2) v .non H Q := ⟨rfl, q⟩
theorem r_notN {v : V} (q : Q (.bl (!decide (v = .non))) H) : (fun x y H Q => y = V.non ∧ Q (.bl (!decide (x = .non))) H : R2) v .non H Q := ⟨rfl, q⟩
end
/-! ### comprehensions with a test -/
section
variable {s : Nat} {te : TE} {tt : TT} {σ : L2.St} {H H0 H1 : Hp} {K : PySem.W.Frag} {a : Addr} {Q : VK} {ls : List (Addr × HO)}
theorem lc_f {n : Nat} {f : Nat → Nat} {cnd : Nat → Bool} {J : It} (L : Loc H0 H1 ls) (hz : n ≤ sizeLine) (xv : Nat → V)
    (hgo : ∀ (i : Nat) (H : Hp), i < n → Same H1 H → J.go i H) (hstop : ∀ (H : Hp), Same H1 H → J.stop n H) (hy : ∀ (i : Nat) (H H' : Hp) (x : V), i < n → Same H1 H → J.yld i H x H' → H' = H ∧ x = xv i)
    (ht : ∀ (i : Nat), i < n → ∀ (H : Hp) (D : Addr) (o : HO) (R : Bool → Hp → Prop), Loc H0 H (ls ++ [(D, o)]) → R (cnd i) H → tt ((σ.set s none).set s (some (xv i))) H R)
    (he : ∀ (i : Nat), i < n → ∀ (H : Hp) (D : Addr) (o : HO) (R : VK), Loc H0 H (ls ++ [(D, o)]) → R (.int ((f i : Nat) : Int)) H → te ((σ.set s none).set s (some (xv i))) H R)
    (q : ∀ D H', Loc H0 H' (ls ++ [(D, .lst (nv (((List.range n).filter cnd).map f)))]) → Q (.ref D) H') : LcGo J (gName s) tt te [s] σ H1 Q := by
  intro D hD
  have M0 : Loc H1 (upd H1 D (.lst (nv (((List.range 0).filter cnd).map f)))) [(D, .lst (nv (((List.range 0).filter cnd).map f)))] := Loc.one hD
  refine ⟨fun i m H => m = n - i ∧ i ≤ n ∧ Loc H1 H [(D, .lst (nv (((List.range i).filter cnd).map f)))], ⟨n, by simp, Nat.zero_le _, M0⟩, ?_⟩
  rintro i m H ⟨rfl, hi, M⟩
  by_cases hlt : i < n
  · refine .inr ⟨hgo i H hlt M.same, fun H' => Loc H1 H' [(D, .lst (nv (((List.range (i + 1)).filter cnd).map f)))], fun H' M' => ⟨n - (i + 1), by omega, rfl, hlt, M'⟩, fun x H' y => ?_⟩
    obtain ⟨rfl, rfl⟩ := hy i H H' x hlt M.same y
    refine ⟨wipe_self σ s _, ?_⟩
    refine ht i hlt _ D _ _ (L.calls M) ?_
    rw [List.range_succ, List.filter_append, List.map_append]
    cases e : cnd i with
    | true =>
      refine ite_tt ?_
      refine he i hlt _ D _ _ (L.calls M) ⟨_, M.get 0 rfl, ?_, ?_⟩
      · rw [nv_len, List.length_map]
        have := List.length_filter_le cnd (List.range i)
        rw [List.length_range] at this
        omega
      · have := M.put (o' := .lst (nv (((List.range i).filter cnd).map f) ++ [.int ((f i : Nat) : Int)])) 0 rfl
        rw [nv_snoc] at this
        rw [nv_snoc]
        rw [show [i].filter cnd = [i] by simp [e]]
        exact this
    | false =>
      refine ite_ff ?_
      rw [show [i].filter cnd = [] by simp [e], List.map_nil, List.append_nil]
      exact M
  · have e : i = n := by omega
    subst e
    exact .inl ⟨hstop H M.same, q D H (L.calls M)⟩
theorem lc_fl {xs : List Nat} (L : Loc H0 H1 ls) (hs : SqL K H1 a (nv xs)) (hz : xs.length ≤ sizeLine) (cnd : Nat → Bool)
    (ht : ∀ (i : Nat), i < xs.length → ∀ (H : Hp) (D : Addr) (o : HO) (R : Bool → Hp → Prop), Loc H0 H (ls ++ [(D, o)]) → R (cnd (xs.getD i 0)) H → tt ((σ.set s none).set s (some (.int ((xs.getD i 0 : Nat) : Int)))) H R)
    (he : ∀ (i : Nat), i < xs.length → ∀ (H : Hp) (D : Addr) (o : HO) (R : VK), Loc H0 H (ls ++ [(D, o)]) → R (.int ((xs.getD i 0 : Nat) : Int)) H → te ((σ.set s none).set s (some (.int ((xs.getD i 0 : Nat) : Int)))) H R)
    (q : ∀ D H', Loc H0 H' (ls ++ [(D, .lst (nv (xs.filter cnd)))]) → Q (.ref D) H') : LcGo (Itl K a) (gName s) tt te [s] σ H1 Q := by
  refine lc_f (f := fun i => xs.getD i 0) (cnd := fun i => cnd (xs.getD i 0)) L hz (fun i => .int ((xs.getD i 0 : Nat) : Int)) (fun i H hi sm => ⟨_, _, sm.seq hs, nv_get hi⟩) (fun H sm => ⟨_, sm.seq hs, by rw [nv_len]; exact Nat.le_refl _⟩)
    (fun i H H' x hi sm y => ⟨y.1, (nv_of_get (y.2 _ (sm.seq hs))).2⟩) ht he ?_
  have e : ((List.range xs.length).filter fun i => cnd (xs.getD i 0)).map (fun i => xs.getD i 0) = xs.filter cnd := by
    have h1 := range_map_get xs id
    have h2 : xs.filter cnd = ((List.range xs.length).map fun i => xs.getD i 0).filter cnd := by rw [show ((List.range xs.length).map fun i => xs.getD i 0) = xs by simpa using h1]
    rw [h2, List.filter_map]
    rfl
  rw [e]
  exact q
theorem lc_fr {n : Nat} (L : Loc H0 H1 ls) (hz : n ≤ sizeLine) (cnd : Nat → Bool)
    (ht : ∀ (i : Nat), i < n → ∀ (H : Hp) (D : Addr) (o : HO) (R : Bool → Hp → Prop), Loc H0 H (ls ++ [(D, o)]) → R (cnd i) H → tt ((σ.set s none).set s (some (.int (i : Int)))) H R)
    (he : ∀ (i : Nat), i < n → ∀ (H : Hp) (D : Addr) (o : HO) (R : VK), Loc H0 H (ls ++ [(D, o)]) → R (.int (i : Int)) H → te ((σ.set s none).set s (some (.int (i : Int)))) H R)
    (q : ∀ D H', Loc H0 H' (ls ++ [(D, .lst (nv ((List.range n).filter cnd)))]) → Q (.ref D) H') : LcGo (Itr 0 n) (gName s) tt te [s] σ H1 Q := by
  refine lc_f (f := fun i => i) (cnd := cnd) L hz (fun i => .int (i : Int)) (fun i H hi _ => hi) (fun H _ => Nat.le_refl n) (fun i H H' x hi _ y => ⟨y.1, by rw [y.2, Int.zero_add]⟩) ht he ?_
  rw [show (((List.range n).filter cnd).map fun i => i) = (List.range n).filter cnd by simp]
  exact q
theorem r_inL {xs : List Nat} {z : Nat} (hs : SqL K H a (nv xs)) (q : Q (.bl (decide (z ∈ xs))) H) : rIn K false (.int (z : Int)) (.ref a) H Q := by
  refine ⟨a, _, rfl, .inl hs, rfl, ?_, ?_⟩
  · rw [List.all_eq_true]
    intro x hx
    unfold nv at hx
    obtain ⟨y, _, rfl⟩ := List.mem_map.mp hx
    rfl
  · have e : inV (.int (z : Int)) (nv xs) = decide (z ∈ xs) := by
      clear q hs
      induction xs with
      | nil => rfl
      | cons y ys ih =>
        show (((y : Int) == (z : Int)) || inV (.int (z : Int)) (nv ys)) = _
        rw [ih]
        by_cases h : z = y
        · subst h; simp
        · have : ((y : Int) == (z : Int)) = false := by rw [beq_eq_false_iff_ne]; omega
          rw [this]
          simp [h]
    rw [e]
    exact q
theorem r_popAt {xs : List Nat} {p : Addr} {x : Nat} {rest : List Nat} (L : Loc H0 H ls) (j : Nat) (hj : ls[j]? = some (p, .lst (nv xs))) (hx : xs = x :: rest) (q : ∀ H', Loc H0 H' (ls.set j (p, .lst (nv rest))) → Q (.int (x : Int)) H') : rPopAt (.ref p) [.int ((0 : Nat) : Int)] H Q := by
  subst hx
  exact ⟨p, _, _, 0, .int (x : Int), rfl, rfl, L.get j hj, by decide, by decide, by simp [seqIndex?, nv_len], rfl, q _ (L.put j hj)⟩
end
/-! ### the heap without some objects -/
def erL (H : Hp) (ls : List (Addr × HO)) : Hp := fun b => if b ∈ ls.map (·.1) then none else H b
section
variable {H0 H H' : Hp} {ls ls' ms ns : List (Addr × HO)} {K : PySem.W.Frag} {p : Addr} {xs : List V}
theorem erL_some {b : Addr} {o : HO} (h : erL H ls b = some o) : b ∉ ls.map (·.1) ∧ H b = some o := by
  unfold erL at h
  split at h
  · cases h
  · exact ⟨by assumption, h⟩
theorem erL_out {b : Addr} (h : b ∉ ls.map (·.1)) : erL H ls b = H b := if_neg h
theorem Loc.split (L : Loc H0 H (ls ++ ms)) : Loc (erL H ls) H ls := by
  have nd := L.nd
  rw [List.map_append, List.nodup_append] at nd
  exact ⟨fun b u e => (erL_some e).2, nd.1, fun q hq => ⟨if_pos (List.mem_map.mpr ⟨q, hq, rfl⟩), (L.at_ q (List.mem_append_left _ hq)).2⟩⟩
theorem Loc.splitS (L : Loc H0 H (ls ++ ms)) : Same H0 (erL H ls) := fun b u e => by
  rw [erL_out fun hm => by
    obtain ⟨q, hq, eq⟩ := List.mem_map.mp hm
    have := (L.at_ q (List.mem_append_left _ hq)).1
    rw [eq, e] at this
    cases this]
  exact L.same b u e
theorem Loc.splitM (L : Loc H0 H (ls ++ ms)) {o : HO} (h : (p, o) ∈ ms) : erL H ls p = some o := by
  have nd := L.nd
  rw [List.map_append, List.nodup_append] at nd
  rw [erL_out fun hm => nd.2.2 p hm p (List.mem_map.mpr ⟨_, h, rfl⟩) rfl]
  exact (L.at_ _ (List.mem_append_right _ h)).2
theorem Loc.merge (L : Loc H0 H (ls ++ ms)) (M : Loc (erL H ls) H' (ls' ++ ns)) : Loc H0 H' (ls' ++ ms ++ ns) := by
  have nd := L.nd
  rw [List.map_append, List.nodup_append] at nd
  have md := M.nd
  rw [List.map_append, List.nodup_append] at md
  have key : ∀ q ∈ ls' ++ ns, ∀ r ∈ ms, q.1 ≠ r.1 := fun q hq r hr e => by
    have h1 := (M.at_ q hq).1
    rw [e, L.splitM hr] at h1
    cases h1
  have fr : ∀ q ∈ ls' ++ ns, H0 q.1 = none := fun q hq => by
    have h1 := (M.at_ q hq).1
    unfold erL at h1
    split at h1
    · rename_i hm
      obtain ⟨r, hr, er⟩ := List.mem_map.mp hm
      rw [← er]
      exact (L.at_ r (List.mem_append_left _ hr)).1
    · exact L.same.free h1
  refine ⟨L.splitS.trans M.same, ?_, fun q hq => ?_⟩
  · rw [List.map_append, List.map_append, List.nodup_append, List.nodup_append]
    refine ⟨⟨md.1, nd.2.1, fun a ha b hb e => ?_⟩, md.2.1, fun a ha b hb e => ?_⟩
    · obtain ⟨q, hq, rfl⟩ := List.mem_map.mp ha
      obtain ⟨r, hr, rfl⟩ := List.mem_map.mp hb
      exact key q (List.mem_append_left _ hq) r hr e
    · rcases List.mem_append.mp ha with ha | ha
      · exact md.2.2 a ha b hb e
      · obtain ⟨q, hq, rfl⟩ := List.mem_map.mp hb
        obtain ⟨r, hr, rfl⟩ := List.mem_map.mp ha
        exact key q (List.mem_append_right _ hq) r hr e.symm
  · rcases List.mem_append.mp hq with hq | hq
    · rcases List.mem_append.mp hq with hq | hq
      · exact ⟨fr q (List.mem_append_left _ hq), (M.at_ q (List.mem_append_left _ hq)).2⟩
      · exact ⟨(L.at_ q (List.mem_append_right _ hq)).1, M.same _ _ (L.splitM hq)⟩
    · exact ⟨fr q (List.mem_append_right _ hq), (M.at_ q (List.mem_append_right _ hq)).2⟩
theorem r_notInT {Q : VK} {z : Nat} {ns : List Nat} (hs : SqT K H p (nv ns)) (q : Q (.bl (!decide (z ∈ ns))) H) : rIn K true (.int (z : Int)) (.ref p) H Q := by
  refine ⟨p, _, rfl, .inr hs, rfl, ?_, ?_⟩
  · rw [List.all_eq_true]
    intro x hx
    unfold nv at hx
    obtain ⟨y, _, rfl⟩ := List.mem_map.mp hx
    rfl
  · have e : inV (.int (z : Int)) (nv ns) = decide (z ∈ ns) := by
      clear q hs
      induction ns with
      | nil => rfl
      | cons y ys ih =>
        show (((y : Int) == (z : Int)) || inV (.int (z : Int)) (nv ys)) = _
        rw [ih]
        by_cases h : z = y
        · subst h; simp
        · have : ((y : Int) == (z : Int)) = false := by rw [beq_eq_false_iff_ne]; omega
          rw [this]
          simp [h]
    show Q (.bl (!inV (.int (z : Int)) (nv ns))) H
    rw [e]
    exact q
end
/-! ### an attribute is written: nothing else changes -/
section
variable {H0 H H' : Hp} {ls : List (Addr × HO)} {K : PySem.W.Frag} {x y a C dx : Addr} {xs : List V} {fs : List (Str × V)}
theorem r_putFo {f : Str} {v : V} {R : Hp → Prop} (L : Loc H0 H ls) (j : Nat) (hj : ls[j]? = some (a, .ins C dx fs)) (c : Cls K C) (n : NoAttr K C f) (hl : fs.length < 1000)
    (q : ∀ H', Loc H0 H' (ls.set j (a, .ins C dx (putF f v fs))) → (∀ b, b ≠ a → H' b = H b) → R H') : PutFld K f v (.ref a) H R := ⟨a, C, dx, fs, rfl, L.get j hj, c, n, hl, q _ (L.put j hj) fun b hb => upd_ne hb⟩
theorem sq_off (h : SqL K (er H y) a xs) (hx : H x = some (.ins C dx fs)) (e : ∀ b, b ≠ x → H' b = H b) : SqL K (er H' y) a xs := by
  rcases h with (h | ⟨u, h⟩) | h
  · obtain ⟨h1, h2⟩ := er_some h
    exact .inl (.inl (by rw [er_ne h1, e a (ne_of h2 hx (by intro z; cases z))]; exact h2))
  · obtain ⟨h1, h2⟩ := er_some h
    exact .inl (.inr ⟨u, by rw [er_ne h1, e a (ne_of h2 hx (by intro z; cases z))]; exact h2⟩)
  · exact .inr h
end
end
section
local macro_rules | `(tactic| walk_at "sq") => `(tactic| first
  | assumption
  | (apply Loc.lst (j := 0) <;> first | assumption | exact rfl)
  | (apply Loc.lst (j := 1) <;> first | assumption | exact rfl)
  | (apply Loc.lst (j := 2) <;> first | assumption | exact rfl)
  | (apply Loc.lst (j := 3) <;> first | assumption | exact rfl)
  | (apply Loc.lst (j := 4) <;> first | assumption | exact rfl)
  | (apply Loc.arg <;> assumption))
local macro_rules | `(tactic| walk_at "hp") => `(tactic| first
  | assumption
  | (apply Loc.get (j := 0) <;> first | assumption | exact rfl)
  | (apply Loc.get (j := 1) <;> first | assumption | exact rfl)
  | (apply Loc.get (j := 2) <;> first | assumption | exact rfl)
  | (apply Loc.get (j := 3) <;> first | assumption | exact rfl)
  | (apply Loc.get (j := 4) <;> first | assumption | exact rfl))
local macro_rules | `(tactic| walk_at "bd") => `(tactic| first
  | omega
  | decide
  | (simp only [nv_len, List.length_append, List.length_cons, List.length_nil, List.length_set, List.length_take, List.length_drop] <;> omega)
  | (simp only [sizeLine_eq, nv_len, List.length_append, List.length_cons, List.length_nil, List.length_set, List.length_take, List.length_drop] <;> omega))
local macro_rules | `(tactic| walk_at "bdW") => `(tactic| first | exact Nat.lt_of_lt_of_le (by first | assumption | omega) (by decide +kernel) | assumption)
local macro_rules | `(tactic| walk_at "lk") => `(tactic| rfl)
local macro_rules | `(tactic| walk_at "lt1000") => `(tactic| exact of_decide_eq_true (by rfl))
local macro_rules | `(tactic| walk_at "fp") => `(tactic| first
  | ((with_reducible apply r_putF (j := 0)); (assumption); (exact rfl); (assumption); (assumption); (walk_at "lt1000"))
  | ((with_reducible apply r_putF (j := 1)); (assumption); (exact rfl); (assumption); (assumption); (walk_at "lt1000"))
  | ((with_reducible apply r_putF (j := 2)); (assumption); (exact rfl); (assumption); (assumption); (walk_at "lt1000")))
local macro_rules | `(tactic| walk_at "app1") => `(tactic| first
  | ((with_reducible apply r_append (j := 0)); (assumption); (exact rfl); (walk_at "bd"))
  | ((with_reducible apply r_append (j := 1)); (assumption); (exact rfl); (walk_at "bd"))
  | ((with_reducible apply r_append (j := 2)); (assumption); (exact rfl); (walk_at "bd"))
  | ((with_reducible apply r_append (j := 3)); (assumption); (exact rfl); (walk_at "bd")))
local macro_rules | `(tactic| walk_at "step") => `(tactic| first
  | ((with_reducible apply r_var); exact rfl)
  | with_reducible apply r_c0
  | with_reducible apply r_cN
  | with_reducible apply r_c
  | with_reducible apply r_op
  | with_reducible apply r_fld
  | ((with_reducible apply r_getF); (walk_at "hp"); (assumption); (assumption); (walk_at "lk"))
  | with_reducible apply s_fld
  | with_reducible apply r_meth
  | ((with_reducible apply r_atM); (walk_at "hp"); (walk_at "lk"))
  | with_reducible apply r_make
  | with_reducible apply r_tB
  | with_reducible apply r_tNot
  | with_reducible apply r_tOr
  | with_reducible apply r_andV
  | with_reducible apply r_chain
  | with_reducible apply r_tTru
  | with_reducible apply r_truN
  | with_reducible apply r_shrN
  | ((with_reducible apply r_shlW); (walk_at "bd"); (walk_at "bdW"))
  | with_reducible apply r_andN
  | with_reducible apply r_orN
  | ((with_reducible apply r_subN); (walk_at "bd"))
  | with_reducible apply r_le
  | with_reducible apply r_gt
  | with_reducible apply r_ge
  | with_reducible apply r_gcons
  | with_reducible apply r_gnil
  | with_reducible apply r_izip
  | ((with_reducible apply r_zipAt); (walk_at "sq"); (walk_at "sq"))
  | with_reducible apply r_un
  | with_reducible apply r_xor
  | with_reducible apply r_addN
  | with_reducible apply r_lt
  | with_reducible apply r_eqN
  | with_reducible apply r_neN
  | ((with_reducible apply r_fdivN); (walk_at "bd"); (walk_at "bd"))
  | ((with_reducible apply r_modN); (walk_at "bd"))
  | ((with_reducible apply r_mulN); (walk_at "bd"))
  | ((with_reducible apply r_shlN); (walk_at "bd"); (walk_at "bd"))
  | with_reducible apply r_i2
  | with_reducible apply r_i1
  | with_reducible apply r_test
  | with_reducible apply r_bl
  | with_reducible apply r_and
  | ((with_reducible apply r_ixN); (walk_at "sq"); (walk_at "bd"))
  | ((with_reducible apply r_ix); (walk_at "sq"); (walk_at "bd"); (walk_at "bd"))
  | ((with_reducible apply r_ixT); (solve_by_elim); (walk_at "bd"))
  | with_reducible apply r_bm
  | ((with_reducible apply r_tyL); (walk_at "sq"))
  | with_reducible apply r_cons
  | with_reducible apply r_nil
  | with_reducible apply r_lst
  | with_reducible apply r_sl
  | with_reducible apply r_noPart
  | with_reducible apply r_part
  | with_reducible apply r_exInt
  | with_reducible apply r_cb
  | with_reducible apply r_call
  | ((with_reducible apply r_lenN); (walk_at "sq"))
  | ((with_reducible apply r_len); (walk_at "sq"))
  | with_reducible apply r_ifE
  | with_reducible apply s_seq
  | with_reducible apply s_asg
  | with_reducible apply s_name
  | with_reducible apply s_ret
  | with_reducible apply s_drop
  | with_reducible apply s_if
  | with_reducible apply s_next
  | with_reducible apply s_sub
  | with_reducible apply s_for
  | with_reducible apply r_rng3
  | with_reducible apply r_rng2
  | with_reducible apply r_rng1
  | with_reducible apply r_ilist
  | with_reducible apply r_ituple
  | with_reducible apply r_lc
  | ((with_reducible apply r_isq); (walk_at "sq"))
  | ((with_reducible apply r_ist); (solve_by_elim))
  | dsimp only [List.set_cons_zero, List.set_cons_succ])
local macro_rules | `(tactic| walk_at "go") => `(tactic| repeat walk_at "step")
local macro_rules | `(tactic| walk_at "b256") => `(tactic| (repeat (first | assumption | apply xor256 | apply twice_lt | apply Bytes.at_)))
local macro_rules | `(tactic| walk_at "app") => `(tactic| (walk_at "go"; walk_at "app1"; intro H' L'; simp only [nv_snoc, List.set_cons_zero, List.set_cons_succ] at L'; try walk_at "go"))
local macro_rules | `(tactic| walk_at "init") => `(tactic| (dsimp only [cxOf, L2.start, List.map, List.map_cons, List.map_nil, List.length_cons, List.length_nil, List.cons_append, List.nil_append, Nat.zero_add, Nat.reduceAdd, Nat.reduceSub, List.replicate_succ, List.replicate_zero]; walk_at "go"))
local macro_rules | `(tactic| walk_at "new") => `(tactic| (apply r_new; (assumption); (walk_at "bd"); intro p' H' L'; simp only [List.nil_append, List.cons_append] at L'))
local macro_rules | `(tactic| walk_at "subl") => `(tactic| (repeat (first | exact List.nil_sublist _ | apply List.Sublist.cons_cons | apply List.Sublist.cons)))
local macro_rules | `(tactic| walk_at "seti") => `(tactic| first
  | ((with_reducible apply r_setL (j := 0)); (assumption); (exact rfl); (walk_at "bd"))
  | ((with_reducible apply r_setL (j := 1)); (assumption); (exact rfl); (walk_at "bd"))
  | ((with_reducible apply r_setL (j := 2)); (assumption); (exact rfl); (walk_at "bd"))
  | ((with_reducible apply r_setL (j := 3)); (assumption); (exact rfl); (walk_at "bd")))

section
def top (i : Nat) : Stmt := PySem.Challenge.pw_sealedrowsdesk_s05_pieces.main.body.getD i (.Pass ⟨0, 0, 0, 0⟩)
structure Adr where
  KEY_LENGTHS : Addr
  SUBSTITUTE : Addr
  SHIFT : Addr
  KINDS : Addr
  START_1 : Addr
  START_2 : Addr
  CONSTANTS_1 : Addr
  CONSTANTS_2 : Addr
  Summing : Addr
  Sealing : Addr
  Pieces : Addr
structure Txt (K : PySem.W.Frag) (mg : Str → Option Value) (ad : Adr) : Prop where
  g_KEY_LENGTHS : mg "KEY_LENGTHS" = some (.ref ad.KEY_LENGTHS)
  t_KEY_LENGTHS : ∀ H, SqT K H ad.KEY_LENGTHS (nv [16, 24, 32])
  g_SUBSTITUTE : mg "SUBSTITUTE" = some (.ref ad.SUBSTITUTE)
  t_SUBSTITUTE : ∀ H, SqT K H ad.SUBSTITUTE (nv [99, 124, 119, 123, 242, 107, 111, 197, 48, 1, 103, 43, 254, 215, 171, 118, 202, 130, 201, 125, 250, 89, 71, 240, 173, 212, 162, 175, 156, 164, 114, 192, 183, 253, 147, 38, 54, 63, 247, 204, 52, 165, 229, 241, 113, 216, 49, 21, 4, 199, 35, 195, 24, 150, 5, 154, 7, 18, 128, 226, 235, 39, 178, 117, 9, 131, 44, 26, 27, 110, 90, 160, 82, 59, 214, 179, 41, 227, 47, 132, 83, 209, 0, 237, 32, 252, 177, 91, 106, 203, 190, 57, 74, 76, 88, 207, 208, 239, 170, 251, 67, 77, 51, 133, 69, 249, 2, 127, 80, 60, 159, 168, 81, 163, 64, 143, 146, 157, 56, 245, 188, 182, 218, 33, 16, 255, 243, 210, 205, 12, 19, 236, 95, 151, 68, 23, 196, 167, 126, 61, 100, 93, 25, 115, 96, 129, 79, 220, 34, 42, 144, 136, 70, 238, 184, 20, 222, 94, 11, 219, 224, 50, 58, 10, 73, 6, 36, 92, 194, 211, 172, 98, 145, 149, 228, 121, 231, 200, 55, 109, 141, 213, 78, 169, 108, 86, 244, 234, 101, 122, 174, 8, 186, 120, 37, 46, 28, 166, 180, 198, 232, 221, 116, 31, 75, 189, 139, 138, 112, 62, 181, 102, 72, 3, 246, 14, 97, 53, 87, 185, 134, 193, 29, 158, 225, 248, 152, 17, 105, 217, 142, 148, 155, 30, 135, 233, 206, 85, 40, 223, 140, 161, 137, 13, 191, 230, 66, 104, 65, 153, 45, 15, 176, 84, 187, 22])
  g_SHIFT : mg "SHIFT" = some (.ref ad.SHIFT)
  t_SHIFT : ∀ H, SqT K H ad.SHIFT (nv [0, 5, 10, 15, 4, 9, 14, 3, 8, 13, 2, 7, 12, 1, 6, 11])
  g_KINDS : mg "KINDS" = some (.ref ad.KINDS)
  t_KINDS : ∀ H, SqT K H ad.KINDS (nv [1, 2])
  g_START_1 : mg "START_1" = some (.ref ad.START_1)
  t_START_1 : ∀ H, SqT K H ad.START_1 (nv [1732584193, 4023233417, 2562383102, 271733878, 3285377520])
  g_START_2 : mg "START_2" = some (.ref ad.START_2)
  t_START_2 : ∀ H, SqT K H ad.START_2 (nv [1779033703, 3144134277, 1013904242, 2773480762, 1359893119, 2600822924, 528734635, 1541459225])
  g_CONSTANTS_1 : mg "CONSTANTS_1" = some (.ref ad.CONSTANTS_1)
  t_CONSTANTS_1 : ∀ H, SqT K H ad.CONSTANTS_1 (nv [1518500249, 1859775393, 2400959708, 3395469782])
  g_CONSTANTS_2 : mg "CONSTANTS_2" = some (.ref ad.CONSTANTS_2)
  t_CONSTANTS_2 : ∀ H, SqT K H ad.CONSTANTS_2 (nv [1116352408, 1899447441, 3049323471, 3921009573, 961987163, 1508970993, 2453635748, 2870763221, 3624381080, 310598401, 607225278, 1426881987, 1925078388, 2162078206, 2614888103, 3248222580, 3835390401, 4022224774, 264347078, 604807628, 770255983, 1249150122, 1555081692, 1996064986, 2554220882, 2821834349, 2952996808, 3210313671, 3336571891, 3584528711, 113926993, 338241895, 666307205, 773529912, 1294757372, 1396182291, 1695183700, 1986661051, 2177026350, 2456956037, 2730485921, 2820302411, 3259730800, 3345764771, 3516065817, 3600352804, 4094571909, 275423344, 430227734, 506948616, 659060556, 883997877, 958139571, 1322822218, 1537002063, 1747873779, 1955562222, 2024104815, 2227730452, 2361852424, 2428436474, 2756734187, 3204031479, 3329325298])
  g_BLOCK : ∃ t, mg "BLOCK" = some (.int 64 t)
  g_MASK : ∃ t, mg "MASK" = some (.int 4294967295 t)
  g_TAG_LENGTH : ∃ t, mg "TAG_LENGTH" = some (.int 16 t)
  g_OVERFLOW : ∃ t, mg "OVERFLOW" = some (.int 299076299051606071403356588563077529600 t)
  k_Summing : mg "Summing" = some (.ref ad.Summing)
  c_Summing : Cls K ad.Summing
  n_Summing_kind : NoAttr K ad.Summing "kind"
  n_Summing_state : NoAttr K ad.Summing "state"
  n_Summing_waiting : NoAttr K ad.Summing "waiting"
  n_Summing_summed_length : NoAttr K ad.Summing "summed_length"
  k_Sealing : mg "Sealing" = some (.ref ad.Sealing)
  c_Sealing : Cls K ad.Sealing
  n_Sealing_round_keys : NoAttr K ad.Sealing "round_keys"
  n_Sealing_factor : NoAttr K ad.Sealing "factor"
  n_Sealing_nonce : NoAttr K ad.Sealing "nonce"
  n_Sealing_opening : NoAttr K ad.Sealing "opening"
  n_Sealing_stream : NoAttr K ad.Sealing "stream"
  n_Sealing_beside_length : NoAttr K ad.Sealing "beside_length"
  n_Sealing_text_length : NoAttr K ad.Sealing "text_length"
  n_Sealing_text_begun : NoAttr K ad.Sealing "text_begun"
  n_Sealing_tagged : NoAttr K ad.Sealing "tagged"
  n_Sealing_waiting : NoAttr K ad.Sealing "waiting"
  k_Pieces : mg "Pieces" = some (.ref ad.Pieces)
  c_Pieces : Cls K ad.Pieces
  n_Pieces_sealing : NoAttr K ad.Pieces "sealing"
  n_Pieces_summing : NoAttr K ad.Pieces "summing"
  n_range : mg "range" = none
  n_len : mg "len" = none
  n_list : mg "list" = none
  n_zip : mg "zip" = none
end
section
section
variable {P : Program} {w : World} {K : PySem.W.Frag} {mg : Str → Option Value} {base : Heap} {ad : Adr}
def sp_double (K : PySem.W.Frag) : Sp := fun vs H Q _ => ∃ b : Nat, vs = [.int (b : Int)] ∧ b < 256 ∧ Q (.int ((Sy22.twice b : Nat) : Int)) H
abbrev s_double : Stmt := top 1
theorem sc_double : FnScope ["byte"] ["byte"] (defScope s_double) := ⟨rfl, rfl, rfl, by decide +kernel, rfl, by decide +kernel, by decide +kernel⟩
theorem ok_double {f : Addr} {fd : FuncData} (F : Fun K "double" "double" s_double f fd) (T : Txt K mg ad)  : FnOk P w K mg base CX0 1 f fd ["byte"] (sp_double K) := by
  refine F.ok sc_double (fun vs H Q E h => ?_) (fun cdv A outer s H vs Q E hr h => ?_)
  · obtain ⟨b, rfl, _⟩ := h; rfl
  obtain ⟨b, rfl, hb, k⟩ := h
  refine ⟨_, (pss_cons (ps_if (pt_cmpR op_lt (pv 0) pe_int (nomark _)) (pss_one (ps_ret (pe_op op_shlW (pv 0) pe_int))) pss_nil)
      (pss_one (ps_ret (pe_op op_xor (pe_op op_shlW (pv 0) pe_int) pe_int)))), ?_⟩
  walk_at "go"
  refine r_if (fun hc => ?_) (fun hc => ?_)
  · walk_at "go"
    have e : Sy22.twice b = b * 2 ^ 1 := by unfold Sy22.twice; rw [if_neg (by omega)]; omega
    rw [e] at k
    exact k
  · walk_at "go"
    have e : Sy22.twice b = (b * 2 ^ 1) ^^^ 283 := by unfold Sy22.twice; rw [if_pos (by omega), Nat.mul_comm]
    rw [e] at k
    exact k
theorem use_double {H : Hp} {Q : VK} {E : XK} {b : Nat} (h : b < 256) (q : Q (.int ((Sy22.twice b : Nat) : Int)) H) : sp_double K ([.int (b : Int)] ++ []) H Q E := ⟨b, rfl, h, q⟩
end
end
section
section
variable {P : Program} {w : World} {K : PySem.W.Frag} {mg : Str → Option Value} {base : Heap} {ad : Adr}
/-! lay_out -/
def laid (ls : List (List Int)) : List Int := ls.flatMap fun (l : List Int) => (l.length : Int) :: l
theorem laid_snoc (ls : List (List Int)) (l : List Int) : laid (ls ++ [l]) = (laid ls ++ [(l.length : Int)]) ++ l := by
  unfold laid
  simp
theorem laid_le (l1 l2 : List (List Int)) : (laid l1).length ≤ (laid (l1 ++ l2)).length := by
  unfold laid
  simp
def sp_lay_out (K : PySem.W.Frag) : Sp := fun vs H Q _ => ∃ (a : Addr) (rs : List (Addr × List Int)), vs = [.ref a] ∧ SqL K H a (rs.map fun r => V.ref r.1) ∧ (∀ r ∈ rs, H r.1 = some (.lst (iv r.2))) ∧ (laid (rs.map (·.2))).length ≤ 1000000 ∧ ∀ p H', Loc H H' [(p, .lst (iv (laid (rs.map (·.2)))))] → Q (.ref p) H'
abbrev s_lay_out : Stmt := top 40
theorem sc_lay_out : FnScope ["rows", "numbers", "row"] ["rows"] (defScope s_lay_out) := ⟨rfl, rfl, rfl, by decide +kernel, rfl, by decide +kernel, by decide +kernel⟩
theorem ok_lay_out {f : Addr} {fd : FuncData} (F : Fun K "lay_out" "lay_out" s_lay_out f fd) (T : Txt K mg ad)  : FnOk P w K mg base CX0 1 f fd ["rows"] (sp_lay_out K) := by
  refine F.ok sc_lay_out (fun vs H Q E h => ?_) (fun cdv A outer s H vs Q E hr h => ?_)
  · obtain ⟨a, rs, rfl, _⟩ := h; rfl
  obtain ⟨a, rs, rfl, hs, hrs, hz, k⟩ := h
  refine ⟨_, (pss_cons (ps_set (i := 1) sc_lay_out.nd rfl (Or.inl rfl) (pe_lst pa_nil))
      (pss_cons (ps_for PassesOwn.never rfl (pi_list (pv 0)) (pg_name (i := 2) sc_lay_out.nd rfl (Or.inl rfl)) (pss_cons (ps_expr (pe_bm PySem.F.plainAttrs_list PySem.F.slot_list_append PySem.F.type_list_append mt_append (pv 1) (pa_cons (pe_callB (c_lenK (K := K) rfl) (by rfl) T.n_len b_len (pa_cons (pv 2) pa_nil)) pa_nil)))
      (pss_one (ps_expr (pe_bm PySem.F.plainAttrs_list PySem.F.slot_list_extend PySem.F.type_list_extend mt_extend (pv 1) (pa_cons (pv 2) pa_nil))))))
      (pss_one (ps_ret (pv 1))))), ?_⟩
  have L0 := Loc.start H
  walk_at "init"
  apply r_new L0 (by decide)
  intro p H1 L1
  walk_at "go"
  refine f_list (xs := rs.map fun r => V.ref r.1) (fun i σ H' => ∃ (v3 : Option V), σ = [some (.ref a), some (.ref p), v3] ∧ Loc H H' [(p, .lst (iv (laid ((rs.take i).map (·.2)))))]) ⟨_, rfl, L1⟩ (fun i σ H' _ ⟨_, _, L⟩ => L.arg hs) ?_ ?_
  · rintro i x σ H2 hx ⟨v3, rfl, L2⟩
    rw [List.getElem?_map] at hx
    obtain ⟨r, hi, rfl⟩ : ∃ r, rs[i]? = some r ∧ V.ref r.1 = x := by
      cases e : rs[i]? with
      | none => rw [e] at hx; cases hx
      | some r => rw [e] at hx; exact ⟨r, rfl, Option.some.inj hx⟩
    have hmem := hrs r (List.mem_of_getElem? hi)
    have hrow : SqL K H r.1 (iv r.2) := SqL.of hmem
    have hle := laid_le ((rs.take (i + 1)).map (·.2)) ((rs.drop (i + 1)).map (·.2))
    rw [← List.map_append, List.take_append_drop, take_snoc hi, List.map_append, List.map_cons, List.map_nil, laid_snoc, List.length_append, List.length_append, List.length_singleton] at hle
    walk_at "go"
    rw [iv_len]
    refine r_append L2 0 rfl (by rw [iv_len, sizeLine_eq]; omega) ?_
    intro H3 L3
    rw [iv_snoc] at L3
    walk_at "go"
    refine r_extend L3 0 rfl (L3.same _ _ hmem) ?_ ?_
    · rw [iv_len, iv_len, List.length_append, List.length_singleton, sizeLine_eq]; omega
    intro H4 L4
    walk_at "go"
    refine ⟨_, rfl, ?_⟩
    rw [take_snoc hi, List.map_append, List.map_cons, List.map_nil, laid_snoc, ← iv_app]
    exact L4
  · rintro σ H2 ⟨v3, rfl, L2⟩
    rw [List.length_map, List.take_length] at L2
    walk_at "go"
    exact k p H2 L2
theorem use_lay_out {H H0 : Hp} {ls : List (Addr × HO)} {Q : VK} {E : XK} {a : Addr} (rs : List (Addr × List Int)) (L : Loc H0 H ls) (hs : SqL K H a (rs.map fun r => V.ref r.1)) (hrs : ∀ r ∈ rs, H r.1 = some (.lst (iv r.2))) (hz : (laid (rs.map (·.2))).length ≤ 1000000)
    (q : ∀ p H', Loc H0 H' (ls ++ [(p, .lst (iv (laid (rs.map (·.2)))))]) → Q (.ref p) H') : sp_lay_out K ([.ref a] ++ []) H Q E :=
  ⟨a, rs, rfl, hs, hrs, hz, fun p H' M => q p H' (L.calls M)⟩
/-! answer -/
theorem laid_ans (z : Int) (ls : List (List Nat)) : laid ([z] :: ls.map fun l => l.map fun (n : Nat) => (n : Int)) = ans z ls := by
  unfold laid ans
  rw [List.flatMap_cons, List.flatMap_map]
  simp
end
end
section
section
variable {P : Program} {w : World} {K : PySem.W.Frag} {mg : Str → Option Value} {base : Heap} {ad : Adr}
/-! number_of -/
def sp_number_of (K : PySem.W.Frag) : Sp := fun vs H Q _ => ∃ (a : Addr) (b : List Nat), vs = [.ref a] ∧ SqL K H a (nv b) ∧ Bytes b ∧ b.length ≤ 500 ∧ Q (.int ((Sy22.bigOf b : Nat) : Int)) H
abbrev s_number_of : Stmt := top 11
theorem sc_number_of : FnScope ["data", "number", "byte"] ["data"] (defScope s_number_of) := ⟨rfl, rfl, rfl, by decide +kernel, rfl, by decide +kernel, by decide +kernel⟩
set_option exponentiation.threshold 5000 in
theorem bigOf_small {b : List Nat} (h : Bytes b) (hl : b.length ≤ 500) : Sy22.bigOf b < 2 ^ 4096 := by
  refine Nat.lt_of_lt_of_le (bigOf_lt h) ?_
  rw [show (256 : Nat) = 2 ^ 8 by rfl, ← Nat.pow_mul]
  exact Nat.pow_le_pow_right (by decide) (by omega)
theorem take_snocD {xs : List Nat} {i : Nat} (h : i < xs.length) : xs.take (i + 1) = xs.take i ++ [xs.getD i 0] := take_snoc (by simp [h])
theorem ok_number_of {f : Addr} {fd : FuncData} (F : Fun K "number_of" "number_of" s_number_of f fd) (T : Txt K mg ad)  : FnOk P w K mg base CX0 1 f fd ["data"] (sp_number_of K) := by
  refine F.ok sc_number_of (fun vs H Q E h => ?_) (fun cdv A outer s H vs Q E hr h => ?_)
  · obtain ⟨a, b, rfl, _⟩ := h; rfl
  obtain ⟨a, b, rfl, hs, hb, hl, q⟩ := h
  refine ⟨_, (pss_cons (ps_set (i := 1) sc_number_of.nd rfl (Or.inl rfl) pe_int)
      (pss_cons (ps_for PassesOwn.never rfl (pi_list (pv 0)) (pg_name (i := 2) sc_number_of.nd rfl (Or.inl rfl)) (pss_one (ps_set (i := 1) sc_number_of.nd rfl (Or.inl rfl) (pe_op op_or (pe_op op_shlW (pv 1) pe_int) (pv 2)))))
      (pss_one (ps_ret (pv 1))))), ?_⟩
  walk_at "init"
  refine f_list (xs := nv b) (fun i σ H' => ∃ (v3 : Option V), σ = [some (.ref a), some (.int ((Sy22.bigOf (b.take i) : Nat) : Int)), v3] ∧ H' = H) ⟨_, rfl, rfl⟩ (fun i σ H' _ ⟨_, _, e⟩ => e ▸ hs) ?_ ?_
  · rintro i x σ H2 hx ⟨v3, rfl, rfl⟩
    obtain ⟨hi, rfl⟩ := nv_of_get hx
    have hsm := bigOf_small (hb.take i) (by rw [List.length_take]; omega)
    walk_at "go"
    rw [take_snocD hi, bigOf_snoc, ← or_add (hb.at_ i)]
    exact ⟨_, rfl, rfl⟩
  · rintro σ H2 ⟨v3, rfl, rfl⟩
    rw [nv_len, List.take_length]
    walk_at "go"
    exact q
theorem use_number_of {H : Hp} {Q : VK} {E : XK} {a : Addr} {b : List Nat} (hs : SqL K H a (nv b)) (hb : Bytes b) (hl : b.length ≤ 500) (q : Q (.int ((Sy22.bigOf b : Nat) : Int)) H) : sp_number_of K ([.ref a] ++ []) H Q E := ⟨a, b, rfl, hs, hb, hl, q⟩
/-! bytes_of -/
def sp_bytes_of (K : PySem.W.Frag) : Sp := fun vs H Q _ => ∃ (x n : Nat), vs = [.int (x : Int), .int (n : Int)] ∧ (n = 4 ∨ n = 8 ∨ n = 16) ∧ ∀ p H', Loc H H' [(p, .lst (nv (Sy22.big n x)))] → Q (.ref p) H'
abbrev s_bytes_of : Stmt := top 12
theorem sc_bytes_of : FnScope ["number", "count", "place"] ["number", "count"] (defScope s_bytes_of) := ⟨rfl, rfl, rfl, by decide +kernel, rfl, by decide +kernel, by decide +kernel⟩
theorem ok_bytes_of {f : Addr} {fd : FuncData} (F : Fun K "bytes_of" "bytes_of" s_bytes_of f fd) (T : Txt K mg ad)  : FnOk P w K mg base CX0 1 f fd ["number", "count"] (sp_bytes_of K) := by
  refine F.ok sc_bytes_of (fun vs H Q E h => ?_) (fun cdv A outer s H vs Q E hr h => ?_)
  · obtain ⟨x, n, rfl, _⟩ := h; rfl
  obtain ⟨x, n, rfl, hn, k⟩ := h
  refine ⟨_, (pss_one (ps_ret (pe_lc rfl sc_bytes_of.nd (pi_range3 rfl T.n_range (pa_cons (pe_op op_sub (pv 1) pe_int) (pa_cons (pe_un un_neg pe_int) (pa_cons (pe_un un_neg pe_int) pa_nil)))) (blkOk_by (own := [("place", 2)]) (by show blkC ["number", "count", "place"] (defScope s_bytes_of) _ _ = true; decide +kernel)) (fun _ _ _ _ _ => pg_name (i := 2) sc_bytes_of.nd rfl (Or.inl rfl)) (fun _ _ _ _ _ => pts_nil) (fun _ _ _ _ _ => (pe_op op_and (pe_op op_shr (pv 0) (pe_op op_mul pe_int (pv 2))) pe_int))))), ?_⟩
  have L0 := Loc.start H
  walk_at "init"
  have hR : RgC ((n - 1 : Nat) : Int) (-((1 : Nat) : Int)) (-((1 : Nat) : Int)) n := by
    rcases hn with rfl | rfl | rfl <;> exact ⟨by decide, by decide, by decide, by decide⟩
  refine ⟨_, _, _, n, rfl, hR, ?_⟩
  refine lc_rCC L0 (by rw [sizeLine_eq]; omega) (fun i => x / 2 ^ (8 * (n - 1 - i)) &&& 255) ?_ ?_
  · intro i hi H1 R sm r
    rw [show ((n - 1 : Nat) : Int) + (i : Int) * (-((1 : Nat) : Int)) = ((n - 1 - i : Nat) : Int) by omega]
    walk_at "go"
    exact r H1 [] (Loc.start H1)
  · intro D H1 L1
    rw [big_eq] at L1
    exact k D H1 L1
theorem use_bytes_of {H H0 : Hp} {ls : List (Addr × HO)} {Q : VK} {E : XK} {x n : Nat} (L : Loc H0 H ls) (hn : n = 4 ∨ n = 8 ∨ n = 16) (q : ∀ p H', Loc H0 H' (ls ++ [(p, .lst (nv (Sy22.big n x)))]) → Q (.ref p) H') : sp_bytes_of K ([.int (x : Int), .int (n : Int)] ++ []) H Q E :=
  ⟨x, n, rfl, hn, fun p H' M => q p H' (L.calls M)⟩
end
end
end
section
local macro_rules | `(tactic| walk_at "sq") => `(tactic| first
  | assumption
  | (apply Loc.lst (j := 0) <;> first | assumption | exact rfl)
  | (apply Loc.lst (j := 1) <;> first | assumption | exact rfl)
  | (apply Loc.lst (j := 2) <;> first | assumption | exact rfl)
  | (apply Loc.lst (j := 3) <;> first | assumption | exact rfl)
  | (apply Loc.lst (j := 4) <;> first | assumption | exact rfl)
  | (apply Loc.arg <;> assumption))
local macro_rules | `(tactic| walk_at "hp") => `(tactic| first
  | assumption
  | (apply Loc.get (j := 0) <;> first | assumption | exact rfl)
  | (apply Loc.get (j := 1) <;> first | assumption | exact rfl)
  | (apply Loc.get (j := 2) <;> first | assumption | exact rfl)
  | (apply Loc.get (j := 3) <;> first | assumption | exact rfl)
  | (apply Loc.get (j := 4) <;> first | assumption | exact rfl))
local macro_rules | `(tactic| walk_at "bd") => `(tactic| first
  | omega
  | decide
  | (simp only [nv_len, List.length_append, List.length_cons, List.length_nil, List.length_set, List.length_take, List.length_drop] <;> omega)
  | (simp only [sizeLine_eq, nv_len, List.length_append, List.length_cons, List.length_nil, List.length_set, List.length_take, List.length_drop] <;> omega))
local macro_rules | `(tactic| walk_at "bdW") => `(tactic| first | exact Nat.lt_of_lt_of_le (by first | assumption | omega) (by decide +kernel) | assumption)
local macro_rules | `(tactic| walk_at "lk") => `(tactic| rfl)
local macro_rules | `(tactic| walk_at "lt1000") => `(tactic| exact of_decide_eq_true (by rfl))
local macro_rules | `(tactic| walk_at "fp") => `(tactic| first
  | ((with_reducible apply r_putF (j := 0)); (assumption); (exact rfl); (assumption); (assumption); (walk_at "lt1000"))
  | ((with_reducible apply r_putF (j := 1)); (assumption); (exact rfl); (assumption); (assumption); (walk_at "lt1000"))
  | ((with_reducible apply r_putF (j := 2)); (assumption); (exact rfl); (assumption); (assumption); (walk_at "lt1000")))
local macro_rules | `(tactic| walk_at "app1") => `(tactic| first
  | ((with_reducible apply r_append (j := 0)); (assumption); (exact rfl); (walk_at "bd"))
  | ((with_reducible apply r_append (j := 1)); (assumption); (exact rfl); (walk_at "bd"))
  | ((with_reducible apply r_append (j := 2)); (assumption); (exact rfl); (walk_at "bd"))
  | ((with_reducible apply r_append (j := 3)); (assumption); (exact rfl); (walk_at "bd")))
local macro_rules | `(tactic| walk_at "step") => `(tactic| first
  | ((with_reducible apply r_var); exact rfl)
  | with_reducible apply r_c0
  | with_reducible apply r_cN
  | with_reducible apply r_c
  | with_reducible apply r_op
  | with_reducible apply r_fld
  | ((with_reducible apply r_getF); (walk_at "hp"); (assumption); (assumption); (walk_at "lk"))
  | with_reducible apply s_fld
  | with_reducible apply r_meth
  | ((with_reducible apply r_atM); (walk_at "hp"); (walk_at "lk"))
  | with_reducible apply r_make
  | with_reducible apply r_tB
  | with_reducible apply r_tNot
  | with_reducible apply r_tOr
  | with_reducible apply r_andV
  | with_reducible apply r_chain
  | with_reducible apply r_tTru
  | with_reducible apply r_truN
  | with_reducible apply r_shrN
  | ((with_reducible apply r_shlW); (walk_at "bd"); (walk_at "bdW"))
  | with_reducible apply r_andN
  | with_reducible apply r_orN
  | with_reducible apply r_le
  | with_reducible apply r_gt
  | with_reducible apply r_ge
  | with_reducible apply r_gcons
  | with_reducible apply r_gnil
  | with_reducible apply r_izip
  | ((with_reducible apply r_zipAt); (walk_at "sq"); (walk_at "sq"))
  | with_reducible apply r_un
  | with_reducible apply r_xor
  | with_reducible apply r_addN
  | with_reducible apply r_lt
  | with_reducible apply r_eqN
  | with_reducible apply r_neN
  | ((with_reducible apply r_fdivN); (walk_at "bd"); (walk_at "bd"))
  | ((with_reducible apply r_modN); (walk_at "bd"))
  | ((with_reducible apply r_mulN); (walk_at "bd"))
  | ((with_reducible apply r_shlN); (walk_at "bd"); (walk_at "bd"))
  | with_reducible apply r_i2
  | with_reducible apply r_i1
  | with_reducible apply r_test
  | with_reducible apply r_bl
  | with_reducible apply r_and
  | ((with_reducible apply r_ixN); (walk_at "sq"); (walk_at "bd"))
  | ((with_reducible apply r_ix); (walk_at "sq"); (walk_at "bd"); (walk_at "bd"))
  | ((with_reducible apply r_ixT); (solve_by_elim); (walk_at "bd"))
  | with_reducible apply r_bm
  | ((with_reducible apply r_tyL); (walk_at "sq"))
  | with_reducible apply r_cons
  | with_reducible apply r_nil
  | with_reducible apply r_lst
  | with_reducible apply r_sl
  | with_reducible apply r_noPart
  | with_reducible apply r_part
  | with_reducible apply r_exInt
  | with_reducible apply r_cb
  | with_reducible apply r_call
  | ((with_reducible apply r_lenN); (walk_at "sq"))
  | ((with_reducible apply r_len); (walk_at "sq"))
  | with_reducible apply r_ifE
  | with_reducible apply s_seq
  | with_reducible apply s_asg
  | with_reducible apply s_name
  | with_reducible apply s_ret
  | with_reducible apply s_drop
  | with_reducible apply s_if
  | with_reducible apply s_next
  | with_reducible apply s_sub
  | with_reducible apply s_for
  | with_reducible apply r_rng3
  | with_reducible apply r_rng2
  | with_reducible apply r_rng1
  | with_reducible apply r_ilist
  | with_reducible apply r_ituple
  | with_reducible apply r_lc
  | ((with_reducible apply r_isq); (walk_at "sq"))
  | ((with_reducible apply r_ist); (solve_by_elim))
  | dsimp only [List.set_cons_zero, List.set_cons_succ])
local macro_rules | `(tactic| walk_at "go") => `(tactic| repeat walk_at "step")
local macro_rules | `(tactic| walk_at "b256") => `(tactic| (repeat (first | assumption | apply xor256 | apply twice_lt | apply Bytes.at_)))
local macro_rules | `(tactic| walk_at "app") => `(tactic| (walk_at "go"; walk_at "app1"; intro H' L'; simp only [nv_snoc, List.set_cons_zero, List.set_cons_succ] at L'; try walk_at "go"))
local macro_rules | `(tactic| walk_at "init") => `(tactic| (dsimp only [cxOf, L2.start, List.map, List.map_cons, List.map_nil, List.length_cons, List.length_nil, List.cons_append, List.nil_append, Nat.zero_add, Nat.reduceAdd, Nat.reduceSub, List.replicate_succ, List.replicate_zero]; walk_at "go"))
local macro_rules | `(tactic| walk_at "new") => `(tactic| (apply r_new; (assumption); (walk_at "bd"); intro p' H' L'; simp only [List.nil_append, List.cons_append] at L'))
local macro_rules | `(tactic| walk_at "subl") => `(tactic| (repeat (first | exact List.nil_sublist _ | apply List.Sublist.cons_cons | apply List.Sublist.cons)))
local macro_rules | `(tactic| walk_at "seti") => `(tactic| first
  | ((with_reducible apply r_setL (j := 0)); (assumption); (exact rfl); (walk_at "bd"))
  | ((with_reducible apply r_setL (j := 1)); (assumption); (exact rfl); (walk_at "bd"))
  | ((with_reducible apply r_setL (j := 2)); (assumption); (exact rfl); (walk_at "bd"))
  | ((with_reducible apply r_setL (j := 3)); (assumption); (exact rfl); (walk_at "bd")))

section
local macro_rules | `(tactic| walk_at "step") => `(tactic| ((with_reducible apply use_double); (walk_at "b256")))
section
variable {P : Program} {w : World} {K : PySem.W.Frag} {mg : Str → Option Value} {base : Heap} {ad : Adr}
def sp_mix (K : PySem.W.Frag) : Sp := fun vs H Q _ => ∃ (a : Addr) (xs : List Nat), vs = [.ref a] ∧ SqL K H a (nv xs) ∧ xs.length = 16 ∧ Bytes xs ∧ ∀ p H', Loc H H' [(p, .lst (nv (mixM xs 4)))] → Q (.ref p) H'
abbrev s_mix : Stmt := top 6
theorem sc_mix : FnScope ["state", "mixed", "at", "a", "b", "c", "d", "whole"] ["state"] (defScope s_mix) := ⟨rfl, rfl, rfl, by decide +kernel, rfl, by decide +kernel, by decide +kernel⟩
theorem rng4 : RgC 0 16 4 4 := ⟨by decide, by decide, by decide, by decide⟩
theorem ok_mix {f : Addr} {fd : FuncData} (F : Fun K "mix" "mix" s_mix f fd) (T : Txt K mg ad) (C_double : Callee P w K mg base 1 "double" ["byte"] (sp_double K)) : FnOk P w K mg base CX0 2 f fd ["state"] (sp_mix K) := by
  refine F.ok sc_mix (fun vs H Q E h => ?_) (fun cdv A outer s H vs Q E hr h => ?_)
  · obtain ⟨a, xs, rfl, _⟩ := h; rfl
  obtain ⟨a, xs, rfl, hs, hl, hb, k⟩ := h
  refine ⟨_, (pss_cons (ps_set (i := 1) sc_mix.nd rfl (Or.inl rfl) (pe_lst pa_nil))
      (pss_cons (ps_for PassesOwn.never rfl (pi_range3 rfl T.n_range (pa_cons pe_int (pa_cons pe_int (pa_cons pe_int pa_nil)))) (pg_name (i := 2) sc_mix.nd rfl (Or.inl rfl)) (pss_cons (ps_set (i := 3) sc_mix.nd rfl (Or.inl rfl) (pe_ix (ix_listK (K := K) rfl) (pv 0) (pv 2) (fun _ _ => rfl)))
      (pss_cons (ps_set (i := 4) sc_mix.nd rfl (Or.inl rfl) (pe_ix (ix_listK (K := K) rfl) (pv 0) (pe_op op_add (pv 2) pe_int) (fun _ _ => rfl)))
      (pss_cons (ps_set (i := 5) sc_mix.nd rfl (Or.inl rfl) (pe_ix (ix_listK (K := K) rfl) (pv 0) (pe_op op_add (pv 2) pe_int) (fun _ _ => rfl)))
      (pss_cons (ps_set (i := 6) sc_mix.nd rfl (Or.inl rfl) (pe_ix (ix_listK (K := K) rfl) (pv 0) (pe_op op_add (pv 2) pe_int) (fun _ _ => rfl)))
      (pss_cons (ps_set (i := 7) sc_mix.nd rfl (Or.inl rfl) (pe_op op_xor (pe_op op_xor (pe_op op_xor (pv 3) (pv 4)) (pv 5)) (pv 6)))
      (pss_cons (ps_expr (pe_bm PySem.F.plainAttrs_list PySem.F.slot_list_append PySem.F.type_list_append mt_append (pv 1) (pa_cons (pe_op op_xor (pe_op op_xor (pv 3) (pv 7)) (pe_fn C_double (hr.mono (by decide)) rfl (pa_cons (pe_op op_xor (pv 3) (pv 4)) pa_nil))) pa_nil)))
      (pss_cons (ps_expr (pe_bm PySem.F.plainAttrs_list PySem.F.slot_list_append PySem.F.type_list_append mt_append (pv 1) (pa_cons (pe_op op_xor (pe_op op_xor (pv 4) (pv 7)) (pe_fn C_double (hr.mono (by decide)) rfl (pa_cons (pe_op op_xor (pv 4) (pv 5)) pa_nil))) pa_nil)))
      (pss_cons (ps_expr (pe_bm PySem.F.plainAttrs_list PySem.F.slot_list_append PySem.F.type_list_append mt_append (pv 1) (pa_cons (pe_op op_xor (pe_op op_xor (pv 5) (pv 7)) (pe_fn C_double (hr.mono (by decide)) rfl (pa_cons (pe_op op_xor (pv 5) (pv 6)) pa_nil))) pa_nil)))
      (pss_one (ps_expr (pe_bm PySem.F.plainAttrs_list PySem.F.slot_list_append PySem.F.type_list_append mt_append (pv 1) (pa_cons (pe_op op_xor (pe_op op_xor (pv 6) (pv 7)) (pe_fn C_double (hr.mono (by decide)) rfl (pa_cons (pe_op op_xor (pv 6) (pv 3)) pa_nil))) pa_nil)))))))))))))
      (pss_one (ps_ret (pv 1))))), ?_⟩
  have L0 := Loc.start H
  walk_at "init"
  apply r_new L0 (by decide)
  intro p H1 L1
  walk_at "go"
  refine ⟨0, 16, 4, 4, rfl, rng4, f_rangeC (fun i σ H' => ∃ (v2 v3 v4 v5 v6 v7 : Option V), σ = [some (.ref a), some (.ref p), v2, v3, v4, v5, v6, v7] ∧ Loc H H' [(p, .lst (nv (mixM xs i)))]) ⟨_, _, _, _, _, _, rfl, L1⟩ ?_ ?_⟩
  · rintro i σ H2 hi ⟨v2, v3, v4, v5, v6, v7, rfl, L2⟩
    have e4 : (0 + (i : Int) * 4) = ((4 * i : Nat) : Int) := by omega
    rw [e4]
    have hm := mixM_len xs i
    walk_at "app"
    walk_at "app"
    walk_at "app"
    walk_at "app"
    rename_i H3 L3
    refine ⟨_, _, _, _, _, _, rfl, ?_⟩
    rw [mixM_succ]
    simpa only [mixCol, List.append_assoc, List.cons_append, List.nil_append] using L3
  · rintro σ H2 ⟨v2, v3, v4, v5, v6, v7, rfl, L2⟩
    walk_at "go"
    exact k p H2 L2
theorem use_mix {H H0 : Hp} {ls : List (Addr × HO)} {Q : VK} {E : XK} {a : Addr} {xs : List Nat} (L : Loc H0 H ls) (hs : SqL K H a (nv xs)) (hl : xs.length = 16) (hb : Bytes xs) (q : ∀ p H', Loc H0 H' (ls ++ [(p, .lst (nv (mixM xs 4)))]) → Q (.ref p) H') : sp_mix K ([.ref a] ++ []) H Q E :=
  ⟨a, xs, rfl, hs, hl, hb, fun p H' M => q p H' (L.calls M)⟩
/-! mix_back -/
end
end
section
local macro_rules | `(tactic| walk_at "step") => `(tactic| ((with_reducible apply use_double); (walk_at "b256")))
section
variable {P : Program} {w : World} {K : PySem.W.Frag} {mg : Str → Option Value} {base : Heap} {ad : Adr}
def sp_expand_key (K : PySem.W.Frag) : Sp := fun vs H Q _ => ∃ (a : Addr) (key : List Nat), vs = [.ref a] ∧ SqL K H a (nv key) ∧ KeyOk key ∧ ∀ p H', Loc H H' [(p, .lst (nv (rks key)))] → Q (.ref p) H'
abbrev s_expand_key : Stmt := top 8
theorem sc_expand_key : FnScope ["key", "size", "rounds", "wanted", "expanded", "constant", "end", "word", "i", "byte"] ["key"] (defScope s_expand_key) := ⟨rfl, rfl, rfl, by decide +kernel, rfl, by decide +kernel, by decide +kernel⟩
theorem ok_expand_key {f : Addr} {fd : FuncData} (F : Fun K "expand_key" "expand_key" s_expand_key f fd) (T : Txt K mg ad) (C_double : Callee P w K mg base 1 "double" ["byte"] (sp_double K)) : FnOk P w K mg base CX0 2 f fd ["key"] (sp_expand_key K) := by
  refine F.ok sc_expand_key (fun vs H Q E h => ?_) (fun cdv A outer s H vs Q E hr h => ?_)
  · obtain ⟨a, key, rfl, _⟩ := h; rfl
  obtain ⟨a, key, rfl, hs, kok, k⟩ := h
  refine ⟨_, (pss_cons (ps_set (i := 1) sc_expand_key.nd rfl (Or.inl rfl) (pe_callB (c_lenK (K := K) rfl) (by rfl) T.n_len b_len (pa_cons (pv 0) pa_nil)))
      (pss_cons (ps_set (i := 2) sc_expand_key.nd rfl (Or.inl rfl) (pe_op op_add (pe_op op_fdiv (pv 1) pe_int) pe_int))
      (pss_cons (ps_set (i := 3) sc_expand_key.nd rfl (Or.inl rfl) (pe_op op_mul pe_int (pe_op op_add (pv 2) pe_int)))
      (pss_cons (ps_set (i := 4) sc_expand_key.nd rfl (Or.inl rfl) (pe_callTy (c_listK (K := K) rfl) (by rfl) T.n_list b_list (pa_cons (pv 0) pa_nil)))
      (pss_cons (ps_set (i := 5) sc_expand_key.nd rfl (Or.inl rfl) pe_int)
      (pss_cons (ps_while PassesOwn.never (pt_cmpR op_lt (pe_callB (c_lenK (K := K) rfl) (by rfl) T.n_len b_len (pa_cons (pv 4) pa_nil)) (pv 3) (nomark _)) (pss_cons (ps_set (i := 6) sc_expand_key.nd rfl (Or.inl rfl) (pe_callB (c_lenK (K := K) rfl) (by rfl) T.n_len b_len (pa_cons (pv 4) pa_nil)))
      (pss_cons (ps_set (i := 7) sc_expand_key.nd rfl (Or.inl rfl) (pe_slice (sl_listK (K := K) rfl) (pv 4) (po_some (pe_op op_sub (pv 6) pe_int)) po_none))
      (pss_cons (ps_mid (ps_if (pt_cmpR op_eq (pe_op op_mod (pv 6) (pv 1)) pe_int (nomark _)) (pss_cons (ps_setLc (i := 7) rfl sc_expand_key.nd rfl rfl (sw_true rfl rfl rfl rfl) (pi_list (pe_op (op_catK (K := K) rfl) (pe_slice (sl_listK (K := K) rfl) (pv 7) (po_some pe_int) po_none) (pe_slice (sl_listK (K := K) rfl) (pv 7) po_none (po_some pe_int)))) (blkOk_by (own := [("byte", 9)]) (by show blkC ["key", "size", "rounds", "wanted", "expanded", "constant", "end", "word", "i", "byte"] (defScope s_expand_key) _ _ = true; decide +kernel)) (fun _ _ _ _ _ => pg_name (i := 9) sc_expand_key.nd rfl (Or.inl rfl)) (fun _ _ _ _ _ => pts_nil) (fun _ _ _ _ _ => (pe_ix (ix_tupK (K := K) rfl) (pe_glob (v := .ref ad.SUBSTITUTE) rfl T.g_SUBSTITUTE rfl) (pv 9) (fun _ _ => rfl))))
      (pss_cons (ps_asg (pe_op op_xor (pe_ix (ix_listK (K := K) rfl) (pv 7) pe_int (fun _ _ => rfl)) (pv 5)) (pg_sub (pv 7) pe_int set_list))
      (pss_one (ps_set (i := 5) sc_expand_key.nd rfl (Or.inl rfl) (pe_fn C_double (hr.mono (by decide)) rfl (pa_cons (pv 5) pa_nil)))))) (pss_one (ps_if (PW.pt (pw_and (pt_cmpR op_eq (pv 1) pe_int (nomark _)) (pw_and1 (pt_cmpR op_eq (pe_op op_mod (pv 6) (pv 1)) pe_int (nomark _))))) (pss_one (ps_setLc (i := 7) rfl sc_expand_key.nd rfl rfl (sw_true rfl rfl rfl rfl) (pi_list (pv 7)) (blkOk_by (own := [("byte", 9)]) (by show blkC ["key", "size", "rounds", "wanted", "expanded", "constant", "end", "word", "i", "byte"] (defScope s_expand_key) _ _ = true; decide +kernel)) (fun _ _ _ _ _ => pg_name (i := 9) sc_expand_key.nd rfl (Or.inl rfl)) (fun _ _ _ _ _ => pts_nil) (fun _ _ _ _ _ => (pe_ix (ix_tupK (K := K) rfl) (pe_glob (v := .ref ad.SUBSTITUTE) rfl T.g_SUBSTITUTE rfl) (pv 9) (fun _ _ => rfl))))) pss_nil))))
      (pss_one (ps_for PassesOwn.never rfl (pi_range1 rfl T.n_range (pa_cons pe_int pa_nil)) (pg_name (i := 8) sc_expand_key.nd rfl (Or.inl rfl)) (pss_one (ps_expr (pe_bm PySem.F.plainAttrs_list PySem.F.slot_list_append PySem.F.type_list_append mt_append (pv 4) (pa_cons (pe_op op_xor (pe_ix (ix_listK (K := K) rfl) (pv 7) (pv 8) (fun _ _ => rfl)) (pe_ix (ix_listK (K := K) rfl) (pv 4) (pe_op op_add (pe_op op_sub (pv 6) (pv 1)) (pv 8)) (fun _ _ => rfl))) pa_nil))))))))))
      (pss_one (ps_ret (pv 4))))))))), ?_⟩
  have L0 := Loc.start H
  have hlen := kok.len
  obtain ⟨nk, hnk, hk⟩ : ∃ nk, key.length = 4 * nk ∧ (nk = 4 ∨ nk = 6 ∨ nk = 8) := by
    rcases hlen with h | h | h
    · exact ⟨4, by omega, by omega⟩
    · exact ⟨6, by omega, by omega⟩
    · exact ⟨8, by omega, by omega⟩
  have hnk' : key.length / 4 = nk := by omega
  have tS : ∀ H, SqT K H ad.SUBSTITUTE (nv SUB) := T.t_SUBSTITUTE
  walk_at "init"
  apply r_listOf L0 hs
  intro p H1 L1
  walk_at "go"
  refine w_by (fun t σ H' => ∃ (v6 v7 v8 v9 : Option V), σ = [some (.ref a), some (.int ((key.length : Nat) : Int)), some (.int ((key.length / 4 + 6 : Nat) : Int)), some (.int ((16 * (key.length / 4 + 6 + 1) : Nat) : Int)), some (.ref p), some (.int ((Sy22.power 2 ((nk + t - 1) / nk) : Nat) : Int)), v6, v7, v8, v9] ∧ Loc H H' [(p, .lst (nv (wN key t).flatten))]) (3 * nk + 28) ?_ ?_
  · refine ⟨none, none, none, none, ?_, ?_⟩
    · have e : (nk + 0 - 1) / nk = 0 := by rcases hk with rfl | rfl | rfl <;> decide
      rw [e]
      rfl
    · rw [wN_zero kok]; exact L1
  · rintro t σ H2 ht ⟨v6, v7, v8, v9, rfl, L2⟩
    have wok := wN_ok kok t
    have wl := wN_len (key := key) t
    have el : (wN key t).flatten.length = 4 * (nk + t) := by rw [flat_len wok, wl, hnk']
    have hN : wN key (t + 1) = wStep nk (wN key t) := by rw [← hnk']; rfl
    generalize hW : wN key t = W at *
    walk_at "go"
    refine r_if (fun hc => ?_) (fun hc => ?_)
    · refine wgo (by omega) ?_
      walk_at "go"
      apply r_slice L2 (L2.lst 0 rfl)
      intro pw H3 L3
      obtain ⟨l1, b1⟩ := wok.getD (show W.length - 1 < W.length by omega)
      have e1 : cutV (nv W.flatten) (some ((W.flatten.length : Int) - ((4 : Nat) : Int))) none = nv (W.getD (W.length - 1) []) := by
        rw [nv_cutFrom (by omega) (by omega), show ((W.flatten.length : Int) - ((4 : Nat) : Int)).toNat = 4 * W.length - 4 by omega, flat_last wok (by omega)]
      rw [e1] at L3
      simp only [List.cons_append, List.nil_append] at L3
      have hstep := step_flat wok (show 0 < nk by omega) (show nk ≤ W.length by omega) hk rfl
      rw [← hN] at hstep
      generalize W.getD (W.length - 1) [] = tw at *
      walk_at "go"
      refine ⟨fun σ H' => ∃ (pu : Addr) (v8 v9 : Option V), σ = [some (.ref a), some (.int ((key.length : Nat) : Int)), some (.int ((key.length / 4 + 6 : Nat) : Int)), some (.int ((16 * (key.length / 4 + 6 + 1) : Nat) : Int)), some (.ref p), some (.int ((Sy22.power 2 ((nk + (t + 1) - 1) / nk) : Nat) : Int)), some (.int ((W.flatten.length : Nat) : Int)), some (.ref pu), v8, v9] ∧
        Loc H H' [(p, .lst (nv W.flatten)), (pu, .lst (nv (if W.length % nk = 0 then wordA tw (Sy22.power 2 ((W.length - 1) / nk)) else if nk = 8 ∧ W.length % nk = 4 then tw.map Sy22.sub else tw)))], ?_, ?_⟩
      · walk_at "go"
        have hmod : W.flatten.length % key.length = 4 * (W.length % nk) := by
          rw [el, hnk, Nat.mul_mod_mul_left, wl, hnk']
        rw [hmod]
        refine r_if (fun hm => ?_) (fun hm => ?_)
        · have hm0 : W.length % nk = 0 := by omega
          rw [if_pos hm0]
          walk_at "go"
          apply r_slice L3 (L3.lst 1 rfl)
          intro q1 H4 L4
          rw [show cutV (nv tw) (some ((1 : Nat) : Int)) none = nv (tw.drop 1) from nv_cutFrom (by omega) (by omega)] at L4
          walk_at "go"
          apply r_slice L4 (L4.lst 1 rfl)
          intro q2 H5 L5
          rw [show cutV (nv tw) none (some ((1 : Nat) : Int)) = nv (tw.take 1) from nv_cutTo (by omega) (by omega)] at L5
          walk_at "go"
          apply r_catO L5 (L5.get 2 rfl) (L5.get 3 rfl) (by simp only [nv_len, List.length_drop, List.length_take]; rw [sizeLine_eq]; omega)
          intro q3 H6 L6
          rw [← nv_app] at L6
          walk_at "go"
          have hb2 : Bytes (tw.drop 1 ++ tw.take 1) := (b1.drop 1).app (b1.take 1)
          have hl2 : (tw.drop 1 ++ tw.take 1).length = 4 := by simp [l1]
          refine lc_l L6 (L6.lst 4 rfl) (by rw [sizeLine_eq]; omega) (fun i => Sy22.sub ((tw.drop 1 ++ tw.take 1).getD i 0)) ?_ ?_
          · intro i hi H7 D o R L7 r
            walk_at "go"
            refine r_ixT (tS _) (by rw [SUB_len]; exact hb2.at_ i) ?_
            rw [sub_tab (hb2.at_ i)]
            exact r
          · intro D H7 L7
            rw [range_map_get _ Sy22.sub] at L7
            replace L7 : Loc H H7 [(p, .lst (nv W.flatten)), (D, .lst (nv ((tw.drop 1 ++ tw.take 1).map Sy22.sub)))] := L7.sub (by walk_at "subl")
            have hl3 : ((tw.drop 1 ++ tw.take 1).map Sy22.sub).length = 4 := by rw [List.length_map]; exact hl2
            have hpow := power_lt (show 2 < 256 by omega) ((nk + t - 1) / nk)
            have ew : nk + t - 1 = W.length - 1 := by omega
            walk_at "go"
            walk_at "seti"
            intro H8 L8
            rw [nv_set] at L8
            walk_at "go"
            refine ⟨D, v8, v9, ?_, ?_⟩
            · have e2 : (nk + (t + 1) - 1) / nk = (nk + t - 1) / nk + 1 := by
                rw [wl, hnk'] at hm0
                rcases hk with rfl | rfl | rfl <;> omega
              rw [e2, power_two]
            · rw [ew] at L8
              exact L8
        · have hm0 : ¬ W.length % nk = 0 := by omega
          have hpe : (nk + (t + 1) - 1) / nk = (nk + t - 1) / nk := by
            rw [wl, hnk'] at hm0
            rcases hk with rfl | rfl | rfl <;> omega
          rw [if_neg hm0]
          walk_at "go"
          have kp : ∀ x : Prop, nk = 8 ∧ x ↔ key.length = 32 ∧ x := fun x => by rw [show nk = 8 ↔ key.length = 32 by omega]
          refine r_if (fun h32 => ?_) (fun h32 => ?_)
          · walk_at "go"
            rw [hmod]
            refine r_if (fun h16 => ?_) (fun h16 => ?_)
            · rw [if_pos (show nk = 8 ∧ W.length % nk = 4 by omega)]
              walk_at "go"
              refine lc_l L3 (L3.lst 1 rfl) (by rw [sizeLine_eq]; omega) (fun i => Sy22.sub (tw.getD i 0)) ?_ ?_
              · intro i hi H7 D o R L7 r
                walk_at "go"
                refine r_ixT (tS _) (by rw [SUB_len]; exact b1.at_ i) ?_
                rw [sub_tab (b1.at_ i)]
                exact r
              · intro D H7 L7
                rw [range_map_get _ Sy22.sub] at L7
                walk_at "go"
                refine ⟨D, v8, v9, ?_, L7.sub (by walk_at "subl")⟩
                rw [hpe]
            · rw [if_neg (show ¬ (nk = 8 ∧ W.length % nk = 4) by omega)]
              walk_at "go"
              exact ⟨pw, v8, v9, by rw [hpe], L3⟩
          · rw [if_neg (show ¬ (nk = 8 ∧ W.length % nk = 4) by omega)]
            refine iteF ?_
            walk_at "go"
            exact ⟨pw, v8, v9, by rw [hpe], L3⟩
      · generalize hu : (if W.length % nk = 0 then wordA tw (Sy22.power 2 ((W.length - 1) / nk)) else if nk = 8 ∧ W.length % nk = 4 then tw.map Sy22.sub else tw) = u at *
        have lu : u.length = 4 := by
          subst hu
          split
          · rw [wordA_eq l1, xor_len, List.length_map, List.length_append, List.length_drop, List.length_take, l1]; rfl
          · split
            · simpa using l1
            · exact l1
        rintro σ H4 ⟨pu, v8', v9', rfl, L4⟩
        walk_at "go"
        refine ⟨4, rfl, by decide, by decide, f_range (fun i σ H' => ∃ v8 : Option V, σ = [some (.ref a), some (.int ((key.length : Nat) : Int)), some (.int ((key.length / 4 + 6 : Nat) : Int)), some (.int ((16 * (key.length / 4 + 6 + 1) : Nat) : Int)), some (.ref p), some (.int ((Sy22.power 2 ((nk + (t + 1) - 1) / nk) : Nat) : Int)), some (.int ((W.flatten.length : Nat) : Int)), some (.ref pu), v8, v9'] ∧
          Loc H H' [(p, .lst (nv (W.flatten ++ (List.range i).map fun k => u.getD k 0 ^^^ W.flatten.getD (W.flatten.length - 4 * nk + k) 0))), (pu, .lst (nv u))]) ⟨_, rfl, by simpa using L4⟩ ?_ ?_⟩
        · rintro i σ H5 hi ⟨v8, rfl, L5⟩
          have hi4 : i < 4 := hi
          rw [Int.zero_add]
          have hrl : ((List.range i).map fun k => u.getD k 0 ^^^ W.flatten.getD (W.flatten.length - 4 * nk + k) 0).length = i := by simp
          walk_at "app"
          rename_i H6 L6
          refine ⟨_, rfl, ?_⟩
          rw [List.range_succ, List.map_append, ← List.append_assoc]
          have e3 : (W.flatten ++ (List.range i).map fun k => u.getD k 0 ^^^ W.flatten.getD (W.flatten.length - 4 * nk + k) 0).getD (((W.flatten.length : Nat) : Int) - ((key.length : Nat) : Int) + (i : Int)).toNat 0 = W.flatten.getD (W.flatten.length - 4 * nk + i) 0 := by
            rw [show (((W.flatten.length : Nat) : Int) - ((key.length : Nat) : Int) + (i : Int)).toNat = W.flatten.length - 4 * nk + i by omega]
            exact getD_app1 (by omega)
          rw [e3] at L6
          exact L6
        · rintro σ H5 ⟨v8, rfl, L5⟩
          walk_at "go"
          refine ⟨_, _, _, _, rfl, ?_⟩
          rw [hstep]
          exact L5.take 1
    · walk_at "go"
      have et : t = 3 * nk + 28 := by omega
      refine k p H2 ?_
      unfold rks
      rw [words_eq, hnk', ← et, hW]
      exact L2
end
end
section
section
variable {P : Program} {w : World} {K : PySem.W.Frag} {mg : Str → Option Value} {base : Heap} {ad : Adr}
theorem use_expand_key {H H0 : Hp} {ls : List (Addr × HO)} {Q : VK} {E : XK} {a : Addr} {key : List Nat} (L : Loc H0 H ls) (hs : SqL K H a (nv key)) (hk : KeyOk key) (q : ∀ p H', Loc H0 H' (ls ++ [(p, .lst (nv (rks key)))]) → Q (.ref p) H') : sp_expand_key K ([.ref a] ++ []) H Q E :=
  ⟨a, key, rfl, hs, hk, fun p H' M => q p H' (L.calls M)⟩
/-! turn_keys -/
end
end
section
section
variable {P : Program} {w : World} {K : PySem.W.Frag} {mg : Str → Option Value} {base : Heap} {ad : Adr}
/-! add_key -/
def sp_add_key (K : PySem.W.Frag) : Sp := fun vs H Q _ => ∃ (a b : Addr) (s rk : List Nat) (n : Nat), vs = [.ref a, .ref b, .int (n : Int)] ∧ SqL K H a (nv s) ∧ SqL K H b (nv rk) ∧ s.length = 16 ∧ n + 16 ≤ rk.length ∧ ∀ p H', Loc H H' [(p, .lst (nv (Sy22.xor s (Sy22.part rk n 16))))] → Q (.ref p) H'
abbrev s_add_key : Stmt := top 7
theorem sc_add_key : FnScope ["state", "round_keys", "at", "i"] ["state", "round_keys", "at"] (defScope s_add_key) := ⟨rfl, rfl, rfl, by decide +kernel, rfl, by decide +kernel, by decide +kernel⟩
theorem ok_add_key {f : Addr} {fd : FuncData} (F : Fun K "add_key" "add_key" s_add_key f fd) (T : Txt K mg ad)  : FnOk P w K mg base CX0 1 f fd ["state", "round_keys", "at"] (sp_add_key K) := by
  refine F.ok sc_add_key (fun vs H Q E h => ?_) (fun cdv A outer s H vs Q E hr h => ?_)
  · obtain ⟨a, b, s, rk, n, rfl, _⟩ := h; rfl
  obtain ⟨a, b, st, rk, n, rfl, hs, hk, hl, hn, k⟩ := h
  refine ⟨_, (pss_one (ps_ret (pe_lc rfl sc_add_key.nd (pi_range1 rfl T.n_range (pa_cons pe_int pa_nil)) (blkOk_by (own := [("i", 3)]) (by show blkC ["state", "round_keys", "at", "i"] (defScope s_add_key) _ _ = true; decide +kernel)) (fun _ _ _ _ _ => pg_name (i := 3) sc_add_key.nd rfl (Or.inl rfl)) (fun _ _ _ _ _ => pts_nil) (fun _ _ _ _ _ => (pe_op op_xor (pe_ix (ix_listK (K := K) rfl) (pv 0) (pv 3) (fun _ _ => rfl)) (pe_ix (ix_listK (K := K) rfl) (pv 1) (pe_op op_add (pv 2) (pv 3)) (fun _ _ => rfl))))))), ?_⟩
  have L0 := Loc.start H
  walk_at "init"
  refine ⟨16, rfl, by decide, by decide, ?_⟩
  refine lc_r L0 (by decide) (fun i => st.getD i 0 ^^^ rk.getD (n + i) 0) ?_ ?_
  · intro i hi H1 D o R L1 r
    have hi : i < 16 := hi
    walk_at "go"
    exact r
  · intro D H1 L1
    have e : (List.range (16 : Int).toNat).map (fun i => st.getD i 0 ^^^ rk.getD (n + i) 0) = Sy22.xor st (Sy22.part rk n 16) := addK_eq hl hn
    rw [e] at L1
    exact k D H1 L1
theorem use_add_key {H H0 : Hp} {ls : List (Addr × HO)} {Q : VK} {E : XK} {a b : Addr} {s rk : List Nat} {z : Int} (n : Nat) (hz : z = (n : Int)) (L : Loc H0 H ls) (hs : SqL K H a (nv s)) (hk : SqL K H b (nv rk)) (hl : s.length = 16) (hn : n + 16 ≤ rk.length) (q : ∀ p H', Loc H0 H' (ls ++ [(p, .lst (nv (Sy22.xor s (Sy22.part rk n 16))))]) → Q (.ref p) H') : sp_add_key K ([.ref a, .ref b, .int z] ++ []) H Q E :=
  ⟨a, b, s, rk, n, by rw [hz]; rfl, hs, hk, hl, hn, fun p H' M => q p H' (L.calls M)⟩
/-! encipher -/
theorem shl_lt (i : Nat) : SHIFTL.getD i 0 < 16 := by
  by_cases h : i < 16
  · have : ∀ i : Fin 16, SHIFTL.getD i.1 0 < 16 := by decide
    exact this ⟨i, h⟩
  · have : SHIFTL.getD i 0 = 0 := by simp [List.getD, List.getElem?_eq_none (show SHIFTL.length ≤ i by simp [SHIFTL]; omega)]
    omega
theorem shb_lt (i : Nat) : SHIFTB.getD i 0 < 16 := by
  by_cases h : i < 16
  · have : ∀ i : Fin 16, SHIFTB.getD i.1 0 < 16 := by decide
    exact this ⟨i, h⟩
  · have : SHIFTB.getD i 0 = 0 := by simp [List.getD, List.getElem?_eq_none (show SHIFTB.length ≤ i by simp [SHIFTB]; omega)]
    omega
def sp_encipher (K : PySem.W.Frag) : Sp := fun vs H Q _ => ∃ (a b : Addr) (s key : List Nat), vs = [.ref a, .ref b] ∧ SqL K H a (nv s) ∧ SqL K H b (nv (rks key)) ∧ Blk s ∧ KeyOk key ∧ ∀ p H', Loc H H' [(p, .lst (nv (Sy22.block key s)))] → Q (.ref p) H'
abbrev s_encipher : Stmt := top 9
theorem sc_encipher : FnScope ["block", "round_keys", "last", "state", "at", "i"] ["block", "round_keys"] (defScope s_encipher) := ⟨rfl, rfl, rfl, by decide +kernel, rfl, by decide +kernel, by decide +kernel⟩
theorem ok_encipher {f : Addr} {fd : FuncData} (F : Fun K "encipher" "encipher" s_encipher f fd) (T : Txt K mg ad) (C_mix : Callee P w K mg base 2 "mix" ["state"] (sp_mix K)) (C_add_key : Callee P w K mg base 1 "add_key" ["state", "round_keys", "at"] (sp_add_key K)) : FnOk P w K mg base CX0 3 f fd ["block", "round_keys"] (sp_encipher K) := by
  refine F.ok sc_encipher (fun vs H Q E h => ?_) (fun cdv A outer s H vs Q E hr h => ?_)
  · obtain ⟨a, b, s, key, rfl, _⟩ := h; rfl
  obtain ⟨a, b, st, key, rfl, hs, hk, bl, kok, k⟩ := h
  refine ⟨_, (pss_cons (ps_set (i := 2) sc_encipher.nd rfl (Or.inl rfl) (pe_op op_sub (pe_callB (c_lenK (K := K) rfl) (by rfl) T.n_len b_len (pa_cons (pv 1) pa_nil)) pe_int))
      (pss_cons (ps_set (i := 3) sc_encipher.nd rfl (Or.inr rfl) (pe_fn C_add_key (hr.mono (by decide)) rfl (pa_cons (pv 0) (pa_cons (pv 1) (pa_cons pe_int pa_nil)))))
      (pss_cons (ps_for PassesOwn.never rfl (pi_range3 rfl T.n_range (pa_cons pe_int (pa_cons (pv 2) (pa_cons pe_int pa_nil)))) (pg_name (i := 4) sc_encipher.nd rfl (Or.inl rfl)) (pss_cons (ps_set (i := 3) sc_encipher.nd rfl (Or.inr rfl) (pe_fn C_mix (hr.mono (by decide)) rfl (pa_cons (pe_lc rfl sc_encipher.nd (pi_tup (pe_glob (v := .ref ad.SHIFT) rfl T.g_SHIFT rfl)) (blkOk_by (own := [("i", 5)]) (by show blkC ["block", "round_keys", "last", "state", "at", "i"] (defScope s_encipher) _ _ = true; decide +kernel)) (fun _ _ _ _ _ => pg_name (i := 5) sc_encipher.nd rfl (Or.inl rfl)) (fun _ _ _ _ _ => pts_nil) (fun _ _ _ _ _ => (pe_ix (ix_tupK (K := K) rfl) (pe_glob (v := .ref ad.SUBSTITUTE) rfl T.g_SUBSTITUTE rfl) (pe_ix (ix_listK (K := K) rfl) (pv 3) (pv 5) (fun _ _ => rfl)) (fun _ _ => rfl)))) pa_nil)))
      (pss_one (ps_set (i := 3) sc_encipher.nd rfl (Or.inr rfl) (pe_fn C_add_key (hr.mono (by decide)) rfl (pa_cons (pv 3) (pa_cons (pv 1) (pa_cons (pv 4) pa_nil))))))))
      (pss_one (ps_ret (pe_fn C_add_key (hr.mono (by decide)) rfl (pa_cons (pe_lc rfl sc_encipher.nd (pi_tup (pe_glob (v := .ref ad.SHIFT) rfl T.g_SHIFT rfl)) (blkOk_by (own := [("i", 5)]) (by show blkC ["block", "round_keys", "last", "state", "at", "i"] (defScope s_encipher) _ _ = true; decide +kernel)) (fun _ _ _ _ _ => pg_name (i := 5) sc_encipher.nd rfl (Or.inl rfl)) (fun _ _ _ _ _ => pts_nil) (fun _ _ _ _ _ => (pe_ix (ix_tupK (K := K) rfl) (pe_glob (v := .ref ad.SUBSTITUTE) rfl T.g_SUBSTITUTE rfl) (pe_ix (ix_listK (K := K) rfl) (pv 3) (pv 5) (fun _ _ => rfl)) (fun _ _ => rfl)))) (pa_cons (pv 1) (pa_cons (pv 2) pa_nil))))))))), ?_⟩
  have L0 := Loc.start H
  have tS : ∀ H, SqT K H ad.SUBSTITUTE (nv SUB) := T.t_SUBSTITUTE
  have tH : ∀ H, SqT K H ad.SHIFT (nv SHIFTL) := T.t_SHIFT
  obtain ⟨hl, hR⟩ := rounds_len kok
  have rb := rks_bytes kok
  rw [block_eq kok bl] at k
  generalize Sy22.rounds key = R at *
  generalize rks key = rk at *
  have bln := bl.len
  walk_at "init"
  refine use_add_key 0 rfl L0 hs hk bl.len (by omega) fun p H1 L1 => ?_
  walk_at "go"
  have hRg : RgC ((16 : Nat) : Int) ((rk.length : Int) - ((16 : Nat) : Int)) ((16 : Nat) : Int) (R - 1) := by
    rw [hl]
    rcases hR with rfl | rfl | rfl <;> exact ⟨by decide, by decide, by decide, by decide⟩
  -- the round's substituted and shifted block
  refine ⟨_, _, _, R - 1, rfl, hRg, f_rangeC (fun i σ H' => ∃ (ps : Addr) (v4 : Option V), σ = [some (.ref a), some (.ref b), some (.int ((rk.length : Int) - ((16 : Nat) : Int))), some (.ref ps), v4, none] ∧ Loc H H' [(ps, .lst (nv (encN rk st i)))]) ⟨_, _, rfl, L1⟩ ?_ ?_⟩
  · rintro i σ H2 hi ⟨ps, v4, rfl, L2⟩
    have e4 : (((16 : Nat) : Int) + (i : Int) * ((16 : Nat) : Int)) = ((16 * (i + 1) : Nat) : Int) := by omega
    rw [e4]
    have eb := encN_blk (rk := rk) bl rb i (by omega)
    have ebl := eb.len
    walk_at "go"
    refine lc_t (xs := SHIFTL) L2 (tH _) (by decide) (fun j => Sy22.sub ((encN rk st i).getD (SHIFTL.getD j 0) 0)) ?_ ?_
    · intro j hj H7 D o R L7 r
      have hsl := shl_lt j
      walk_at "go"
      refine r_ixT (tS _) (by rw [SUB_len]; exact eb.bytes.at_ _) ?_
      rw [sub_tab (eb.bytes.at_ _)]
      exact r
    · intro D H3 L3
      have e : (List.range SHIFTL.length).map (fun j => Sy22.sub ((encN rk st i).getD (SHIFTL.getD j 0) 0)) = subSh (encN rk st i) := rfl
      rw [e] at L3
      have sb := subSh_blk eb
      walk_at "go"
      refine use_mix L3 (L3.lst 1 rfl) sb.len sb.bytes fun q H4 L4 => ?_
      walk_at "go"
      refine use_add_key (16 * (i + 1)) rfl L4 (L4.lst 2 rfl) (L4.arg hk) (mix_blk sb).len (by omega) fun q2 H5 L5 => ?_
      walk_at "go"
      exact ⟨q2, _, rfl, L5.pick 3 rfl⟩
  · rintro σ H2 ⟨ps, v4, rfl, L2⟩
    have eb := encN_blk (rk := rk) bl rb (R - 1) (by omega)
    have ebl := eb.len
    walk_at "go"
    refine lc_t (xs := SHIFTL) L2 (tH _) (by decide) (fun i => Sy22.sub ((encN rk st (R - 1)).getD (SHIFTL.getD i 0) 0)) ?_ ?_
    · intro j hj H7 D o R' L7 r
      have hsl := shl_lt j
      walk_at "go"
      refine r_ixT (tS _) (by rw [SUB_len]; exact eb.bytes.at_ _) ?_
      rw [sub_tab (eb.bytes.at_ _)]
      exact r
    · intro D H3 L3
      have e : (List.range SHIFTL.length).map (fun j => Sy22.sub ((encN rk st (R - 1)).getD (SHIFTL.getD j 0) 0)) = subSh (encN rk st (R - 1)) := rfl
      rw [e] at L3
      have sb := subSh_blk eb
      walk_at "go"
      refine use_add_key (16 * R) (by omega) L3 (L3.lst 1 rfl) (L3.arg hk) sb.len (by omega) fun q H4 L4 => ?_
      exact k q H4 (L4.pick 2 rfl)
theorem use_encipher {H H0 : Hp} {ls : List (Addr × HO)} {Q : VK} {E : XK} {a b : Addr} {s key : List Nat} (L : Loc H0 H ls) (hs : SqL K H a (nv s)) (hk : SqL K H b (nv (rks key))) (bl : Blk s) (kok : KeyOk key) (q : ∀ p H', Loc H0 H' (ls ++ [(p, .lst (nv (Sy22.block key s)))]) → Q (.ref p) H') : sp_encipher K ([.ref a, .ref b] ++ []) H Q E :=
  ⟨a, b, s, key, rfl, hs, hk, bl, kok, fun p H' M => q p H' (L.calls M)⟩
/-! decipher -/
end
end
end
section
local macro_rules | `(tactic| walk_at "sq") => `(tactic| first
  | assumption
  | (apply Loc.lst (j := 0) <;> first | assumption | exact rfl)
  | (apply Loc.lst (j := 1) <;> first | assumption | exact rfl)
  | (apply Loc.lst (j := 2) <;> first | assumption | exact rfl)
  | (apply Loc.lst (j := 3) <;> first | assumption | exact rfl)
  | (apply Loc.lst (j := 4) <;> first | assumption | exact rfl)
  | (apply Loc.arg <;> assumption))
local macro_rules | `(tactic| walk_at "hp") => `(tactic| first
  | assumption
  | (apply Loc.get (j := 0) <;> first | assumption | exact rfl)
  | (apply Loc.get (j := 1) <;> first | assumption | exact rfl)
  | (apply Loc.get (j := 2) <;> first | assumption | exact rfl)
  | (apply Loc.get (j := 3) <;> first | assumption | exact rfl)
  | (apply Loc.get (j := 4) <;> first | assumption | exact rfl))
local macro_rules | `(tactic| walk_at "bd") => `(tactic| first
  | omega
  | decide
  | (simp only [nv_len, List.length_append, List.length_cons, List.length_nil, List.length_set, List.length_take, List.length_drop] <;> omega)
  | (simp only [sizeLine_eq, nv_len, List.length_append, List.length_cons, List.length_nil, List.length_set, List.length_take, List.length_drop] <;> omega))
local macro_rules | `(tactic| walk_at "bdW") => `(tactic| first | exact Nat.lt_of_lt_of_le (by first | assumption | omega) (by decide +kernel) | assumption)
local macro_rules | `(tactic| walk_at "lk") => `(tactic| rfl)
local macro_rules | `(tactic| walk_at "lt1000") => `(tactic| exact of_decide_eq_true (by rfl))
local macro_rules | `(tactic| walk_at "fp") => `(tactic| first
  | ((with_reducible apply r_putF (j := 0)); (assumption); (exact rfl); (assumption); (assumption); (walk_at "lt1000"))
  | ((with_reducible apply r_putF (j := 1)); (assumption); (exact rfl); (assumption); (assumption); (walk_at "lt1000"))
  | ((with_reducible apply r_putF (j := 2)); (assumption); (exact rfl); (assumption); (assumption); (walk_at "lt1000")))
local macro_rules | `(tactic| walk_at "app1") => `(tactic| first
  | ((with_reducible apply r_append (j := 0)); (assumption); (exact rfl); (walk_at "bd"))
  | ((with_reducible apply r_append (j := 1)); (assumption); (exact rfl); (walk_at "bd"))
  | ((with_reducible apply r_append (j := 2)); (assumption); (exact rfl); (walk_at "bd"))
  | ((with_reducible apply r_append (j := 3)); (assumption); (exact rfl); (walk_at "bd")))
local macro_rules | `(tactic| walk_at "step") => `(tactic| first
  | ((with_reducible apply r_var); exact rfl)
  | with_reducible apply r_c0
  | with_reducible apply r_cN
  | with_reducible apply r_c
  | with_reducible apply r_op
  | with_reducible apply r_fld
  | ((with_reducible apply r_getF); (walk_at "hp"); (assumption); (assumption); (walk_at "lk"))
  | with_reducible apply s_fld
  | with_reducible apply r_meth
  | ((with_reducible apply r_atM); (walk_at "hp"); (walk_at "lk"))
  | with_reducible apply r_make
  | with_reducible apply r_tB
  | with_reducible apply r_tNot
  | with_reducible apply r_tOr
  | with_reducible apply r_andV
  | with_reducible apply r_chain
  | with_reducible apply r_tTru
  | with_reducible apply r_truN
  | with_reducible apply r_shrN
  | ((with_reducible apply r_shlW); (walk_at "bd"); (walk_at "bdW"))
  | with_reducible apply r_andN
  | with_reducible apply r_orN
  | ((with_reducible apply r_subN); (walk_at "bd"))
  | with_reducible apply r_le
  | with_reducible apply r_gt
  | with_reducible apply r_ge
  | with_reducible apply r_gcons
  | with_reducible apply r_gnil
  | with_reducible apply r_izip
  | ((with_reducible apply r_zipAt); (walk_at "sq"); (walk_at "sq"))
  | with_reducible apply r_un
  | with_reducible apply r_xor
  | with_reducible apply r_addN
  | with_reducible apply r_lt
  | with_reducible apply r_eqN
  | with_reducible apply r_neN
  | ((with_reducible apply r_fdivN); (walk_at "bd"); (walk_at "bd"))
  | ((with_reducible apply r_modN); (walk_at "bd"))
  | ((with_reducible apply r_mulN); (walk_at "bd"))
  | ((with_reducible apply r_shlN); (walk_at "bd"); (walk_at "bd"))
  | with_reducible apply r_i2
  | with_reducible apply r_i1
  | with_reducible apply r_test
  | with_reducible apply r_bl
  | with_reducible apply r_and
  | ((with_reducible apply r_ixN); (walk_at "sq"); (walk_at "bd"))
  | ((with_reducible apply r_ix); (walk_at "sq"); (walk_at "bd"); (walk_at "bd"))
  | ((with_reducible apply r_ixT); (solve_by_elim); (walk_at "bd"))
  | with_reducible apply r_bm
  | ((with_reducible apply r_tyL); (walk_at "sq"))
  | with_reducible apply r_cons
  | with_reducible apply r_nil
  | with_reducible apply r_lst
  | with_reducible apply r_sl
  | with_reducible apply r_noPart
  | with_reducible apply r_part
  | with_reducible apply r_exInt
  | with_reducible apply r_cb
  | with_reducible apply r_call
  | ((with_reducible apply r_lenN); (walk_at "sq"))
  | ((with_reducible apply r_len); (walk_at "sq"))
  | with_reducible apply r_ifE
  | with_reducible apply s_seq
  | with_reducible apply s_asg
  | with_reducible apply s_name
  | with_reducible apply s_ret
  | with_reducible apply s_drop
  | with_reducible apply s_if
  | with_reducible apply s_next
  | with_reducible apply s_sub
  | with_reducible apply s_for
  | with_reducible apply r_rng3
  | with_reducible apply r_rng2
  | with_reducible apply r_rng1
  | with_reducible apply r_ilist
  | with_reducible apply r_ituple
  | with_reducible apply r_lc
  | ((with_reducible apply r_isq); (walk_at "sq"))
  | ((with_reducible apply r_ist); (solve_by_elim))
  | dsimp only [List.set_cons_zero, List.set_cons_succ])
local macro_rules | `(tactic| walk_at "go") => `(tactic| repeat walk_at "step")
local macro_rules | `(tactic| walk_at "b256") => `(tactic| (repeat (first | assumption | apply xor256 | apply twice_lt | apply Bytes.at_)))
local macro_rules | `(tactic| walk_at "app") => `(tactic| (walk_at "go"; walk_at "app1"; intro H' L'; simp only [nv_snoc, List.set_cons_zero, List.set_cons_succ] at L'; try walk_at "go"))
local macro_rules | `(tactic| walk_at "init") => `(tactic| (dsimp only [cxOf, L2.start, List.map, List.map_cons, List.map_nil, List.length_cons, List.length_nil, List.cons_append, List.nil_append, Nat.zero_add, Nat.reduceAdd, Nat.reduceSub, List.replicate_succ, List.replicate_zero]; walk_at "go"))
local macro_rules | `(tactic| walk_at "new") => `(tactic| (apply r_new; (assumption); (walk_at "bd"); intro p' H' L'; simp only [List.nil_append, List.cons_append] at L'))
local macro_rules | `(tactic| walk_at "subl") => `(tactic| (repeat (first | exact List.nil_sublist _ | apply List.Sublist.cons_cons | apply List.Sublist.cons)))
local macro_rules | `(tactic| walk_at "seti") => `(tactic| first
  | ((with_reducible apply r_setL (j := 0)); (assumption); (exact rfl); (walk_at "bd"))
  | ((with_reducible apply r_setL (j := 1)); (assumption); (exact rfl); (walk_at "bd"))
  | ((with_reducible apply r_setL (j := 2)); (assumption); (exact rfl); (walk_at "bd"))
  | ((with_reducible apply r_setL (j := 3)); (assumption); (exact rfl); (walk_at "bd")))

section
section
variable {P : Program} {w : World} {K : PySem.W.Frag} {mg : Str → Option Value} {base : Heap} {ad : Adr}
/-! turns -/
def sp_turn_left (K : PySem.W.Frag) : Sp := fun vs H Q _ => ∃ (x n : Nat), vs = [.int (x : Int), .int (n : Int)] ∧ x < 2 ^ 32 ∧ n ≤ 31 ∧ Q (.int ((Sy22.left x n : Nat) : Int)) H
abbrev s_turn_left : Stmt := top 21
theorem sc_turn_left : FnScope ["word", "count"] ["word", "count"] (defScope s_turn_left) := ⟨rfl, rfl, rfl, by decide +kernel, rfl, by decide +kernel, by decide +kernel⟩
theorem ok_turn_left {f : Addr} {fd : FuncData} (F : Fun K "turn_left" "turn_left" s_turn_left f fd) (T : Txt K mg ad)  : FnOk P w K mg base CX0 1 f fd ["word", "count"] (sp_turn_left K) := by
  refine F.ok sc_turn_left (fun vs H Q E h => ?_) (fun cdv A outer s H vs Q E hr h => ?_)
  · obtain ⟨x, n, rfl, _⟩ := h; rfl
  obtain ⟨x, n, rfl, hx, hn, q⟩ := h
  refine ⟨_, (pss_one (ps_ret (pe_op op_and (pe_op op_or (pe_op op_shlW (pv 0) (pv 1)) (pe_op op_shr (pv 0) (pe_op op_sub pe_int (pv 1)))) (pe_glob (v := .int 4294967295) rfl T.g_MASK.choose_spec ⟨_, rfl⟩)))), ?_⟩
  walk_at "init"
  rw [left_eq hx]
  exact q
theorem use_turn_left {H : Hp} {Q : VK} {E : XK} {x n : Nat} (hx : x < 2 ^ 32) (hn : n ≤ 31) (q : Q (.int ((Sy22.left x n : Nat) : Int)) H) : sp_turn_left K ([.int (x : Int), .int (n : Int)] ++ []) H Q E := ⟨x, n, rfl, hx, hn, q⟩
def sp_turn_thrice (K : PySem.W.Frag) : Sp := fun vs H Q _ => ∃ (x a b c : Nat), vs = [.int (x : Int), .int (a : Int), .int (b : Int), .int (c : Int)] ∧ x < 2 ^ 32 ∧ a < 32 ∧ b < 32 ∧ c < 32 ∧ Q (.int ((Sy22.right x a ^^^ (Sy22.right x b ^^^ Sy22.right x c) : Nat) : Int)) H
abbrev s_turn_thrice : Stmt := top 22
theorem sc_turn_thrice : FnScope ["word", "first", "second", "third", "twice"] ["word", "first", "second", "third"] (defScope s_turn_thrice) := ⟨rfl, rfl, rfl, by decide +kernel, rfl, by decide +kernel, by decide +kernel⟩
theorem ok_turn_thrice {f : Addr} {fd : FuncData} (F : Fun K "turn_thrice" "turn_thrice" s_turn_thrice f fd) (T : Txt K mg ad)  : FnOk P w K mg base CX0 1 f fd ["word", "first", "second", "third"] (sp_turn_thrice K) := by
  refine F.ok sc_turn_thrice (fun vs H Q E h => ?_) (fun cdv A outer s H vs Q E hr h => ?_)
  · obtain ⟨x, a, b, c, rfl, _⟩ := h; rfl
  obtain ⟨x, a, b, c, rfl, hx, ha, hb, hc, q⟩ := h
  refine ⟨_, (pss_cons (ps_set (i := 4) sc_turn_thrice.nd rfl (Or.inl rfl) (pe_op op_or (pe_op op_shlW (pv 0) pe_int) (pv 0)))
      (pss_one (ps_ret (pe_op op_and (pe_op op_xor (pe_op op_xor (pe_op op_shr (pv 4) (pv 1)) (pe_op op_shr (pv 4) (pv 2))) (pe_op op_shr (pv 4) (pv 3))) (pe_glob (v := .int 4294967295) rfl T.g_MASK.choose_spec ⟨_, rfl⟩))))), ?_⟩
  walk_at "init"
  rw [thrice_eq hx ha hb hc]
  exact q
theorem use_turn_thrice {H : Hp} {Q : VK} {E : XK} {x a b c : Nat} (hx : x < 2 ^ 32) (ha : a < 32) (hb : b < 32) (hc : c < 32) (q : Q (.int ((Sy22.right x a ^^^ (Sy22.right x b ^^^ Sy22.right x c) : Nat) : Int)) H) : sp_turn_thrice K ([.int (x : Int), .int (a : Int), .int (b : Int), .int (c : Int)] ++ []) H Q E := ⟨x, a, b, c, rfl, hx, ha, hb, hc, q⟩
def sp_turn_and_shift (K : PySem.W.Frag) : Sp := fun vs H Q _ => ∃ (x a b c : Nat), vs = [.int (x : Int), .int (a : Int), .int (b : Int), .int (c : Int)] ∧ x < 2 ^ 32 ∧ a < 32 ∧ b < 32 ∧ Q (.int ((Sy22.right x a ^^^ (Sy22.right x b ^^^ x / 2 ^ c) : Nat) : Int)) H
abbrev s_turn_and_shift : Stmt := top 23
theorem sc_turn_and_shift : FnScope ["word", "first", "second", "shift", "twice"] ["word", "first", "second", "shift"] (defScope s_turn_and_shift) := ⟨rfl, rfl, rfl, by decide +kernel, rfl, by decide +kernel, by decide +kernel⟩
theorem ok_turn_and_shift {f : Addr} {fd : FuncData} (F : Fun K "turn_and_shift" "turn_and_shift" s_turn_and_shift f fd) (T : Txt K mg ad)  : FnOk P w K mg base CX0 1 f fd ["word", "first", "second", "shift"] (sp_turn_and_shift K) := by
  refine F.ok sc_turn_and_shift (fun vs H Q E h => ?_) (fun cdv A outer s H vs Q E hr h => ?_)
  · obtain ⟨x, a, b, c, rfl, _⟩ := h; rfl
  obtain ⟨x, a, b, c, rfl, hx, ha, hb, q⟩ := h
  refine ⟨_, (pss_cons (ps_set (i := 4) sc_turn_and_shift.nd rfl (Or.inl rfl) (pe_op op_or (pe_op op_shlW (pv 0) pe_int) (pv 0)))
      (pss_one (ps_ret (pe_op op_and (pe_op op_xor (pe_op op_xor (pe_op op_shr (pv 4) (pv 1)) (pe_op op_shr (pv 4) (pv 2))) (pe_op op_shr (pv 0) (pv 3))) (pe_glob (v := .int 4294967295) rfl T.g_MASK.choose_spec ⟨_, rfl⟩))))), ?_⟩
  walk_at "init"
  rw [shift_eq hx ha hb]
  exact q
theorem use_turn_and_shift {H : Hp} {Q : VK} {E : XK} {x a b c : Nat} (hx : x < 2 ^ 32) (ha : a < 32) (hb : b < 32) (q : Q (.int ((Sy22.right x a ^^^ (Sy22.right x b ^^^ x / 2 ^ c) : Nat) : Int)) H) : sp_turn_and_shift K ([.int (x : Int), .int (a : Int), .int (b : Int), .int (c : Int)] ++ []) H Q E := ⟨x, a, b, c, rfl, hx, ha, hb, q⟩
/-! words_of -/
def sp_words_of (K : PySem.W.Frag) : Sp := fun vs H Q _ => ∃ (a : Addr) (b : List Nat), vs = [.ref a] ∧ SqL K H a (nv b) ∧ Bytes b ∧ b.length = 64 ∧ ∀ p H', Loc H H' [(p, .lst (nv (Sy22.wordsOf b)))] → Q (.ref p) H'
abbrev s_words_of : Stmt := top 24
theorem sc_words_of : FnScope ["block", "at"] ["block"] (defScope s_words_of) := ⟨rfl, rfl, rfl, by decide +kernel, rfl, by decide +kernel, by decide +kernel⟩
theorem ok_words_of {f : Addr} {fd : FuncData} (F : Fun K "words_of" "words_of" s_words_of f fd) (T : Txt K mg ad) (C_number_of : Callee P w K mg base 1 "number_of" ["data"] (sp_number_of K)) : FnOk P w K mg base CX0 2 f fd ["block"] (sp_words_of K) := by
  refine F.ok sc_words_of (fun vs H Q E h => ?_) (fun cdv A outer s H vs Q E hr h => ?_)
  · obtain ⟨a, b, rfl, _⟩ := h; rfl
  obtain ⟨a, b, rfl, hs, hb, hl, k⟩ := h
  refine ⟨_, (pss_one (ps_ret (pe_lc rfl sc_words_of.nd (pi_range3 rfl T.n_range (pa_cons pe_int (pa_cons (pe_callB (c_lenK (K := K) rfl) (by rfl) T.n_len b_len (pa_cons (pv 0) pa_nil)) (pa_cons pe_int pa_nil)))) (blkOk_by (own := [("at", 1)]) (by show blkC ["block", "at"] (defScope s_words_of) _ _ = true; decide +kernel)) (fun _ _ _ _ _ => pg_name (i := 1) sc_words_of.nd rfl (Or.inl rfl)) (fun _ _ _ _ _ => pts_nil) (fun _ _ _ _ _ => (pe_fn C_number_of (hr.mono (by decide)) rfl (pa_cons (pe_slice (sl_listK (K := K) rfl) (pv 0) (po_some (pv 1)) (po_some (pe_op op_add (pv 1) pe_int))) pa_nil)))))), ?_⟩
  have L0 := Loc.start H
  walk_at "init"
  rw [hl]
  refine ⟨_, _, _, 16, rfl, ⟨by decide, by decide, by decide, by decide⟩, ?_⟩
  refine lc_rCC L0 (by decide) (fun i => Sy22.bigOf (Sy22.part b (4 * i) 4)) ?_ ?_
  · intro i hi H1 R sm r
    rw [show ((0 : Nat) : Int) + (i : Int) * ((4 : Nat) : Int) = ((4 * i : Nat) : Int) by omega]
    have hsz := sm.seq hs
    walk_at "go"
    refine r_slice (Loc.start H1) hsz fun p H2 L2 => ?_
    rw [nv_cut2 (by omega) (by omega) (by omega), Int.toNat_natCast, Int.toNat_natCast] at L2
    have e5 : My.cut b (4 * i) (4 * i + 4) = Sy22.part b (4 * i) 4 := by unfold My.cut Sy22.part; rw [Nat.add_sub_cancel_left]
    rw [e5] at L2
    walk_at "go"
    refine use_number_of (L2.lst 0 rfl) (part_bytes hb _ _) (by rw [part_len (by omega)]; decide) ?_
    exact r H2 _ L2
  · intro D H1 L1
    have e : Sy22.wordsOf b = (List.range 16).map fun i => Sy22.bigOf (Sy22.part b (4 * i) 4) := by
      unfold Sy22.wordsOf Sy22.pieces
      rw [hl, List.map_map]
      rfl
    rw [← e] at L1
    exact k D H1 L1
theorem use_words_of {H H0 : Hp} {ls : List (Addr × HO)} {Q : VK} {E : XK} {a : Addr} {b : List Nat} (L : Loc H0 H ls) (hs : SqL K H a (nv b)) (hb : Bytes b) (hl : b.length = 64) (q : ∀ p H', Loc H0 H' (ls ++ [(p, .lst (nv (Sy22.wordsOf b)))]) → Q (.ref p) H') : sp_words_of K ([.ref a] ++ []) H Q E :=
  ⟨a, b, rfl, hs, hb, hl, fun p H' M => q p H' (L.calls M)⟩
/-! spread_block_1 -/
def sp_spread_block_1 (K : PySem.W.Frag) : Sp := fun vs H Q _ => ∃ (a : Addr) (b : List Nat), vs = [.ref a] ∧ SqL K H a (nv b) ∧ Bytes b ∧ b.length = 64 ∧ ∀ p H', Loc H H' [(p, .lst (nv (Sy22.more1 (Sy22.wordsOf b))))] → Q (.ref p) H'
abbrev s_spread_block_1 : Stmt := top 25
theorem sc_spread_block_1 : FnScope ["block", "words", "at"] ["block"] (defScope s_spread_block_1) := ⟨rfl, rfl, rfl, by decide +kernel, rfl, by decide +kernel, by decide +kernel⟩
theorem ok_spread_block_1 {f : Addr} {fd : FuncData} (F : Fun K "spread_block_1" "spread_block_1" s_spread_block_1 f fd) (T : Txt K mg ad) (C_turn_left : Callee P w K mg base 1 "turn_left" ["word", "count"] (sp_turn_left K)) (C_words_of : Callee P w K mg base 2 "words_of" ["block"] (sp_words_of K)) : FnOk P w K mg base CX0 3 f fd ["block"] (sp_spread_block_1 K) := by
  refine F.ok sc_spread_block_1 (fun vs H Q E h => ?_) (fun cdv A outer s H vs Q E hr h => ?_)
  · obtain ⟨a, b, rfl, _⟩ := h; rfl
  obtain ⟨a, b, rfl, hs, hb, hl, k⟩ := h
  refine ⟨_, (pss_cons (ps_set (i := 1) sc_spread_block_1.nd rfl (Or.inl rfl) (pe_fn C_words_of (hr.mono (by decide)) rfl (pa_cons (pv 0) pa_nil)))
      (pss_cons (ps_for PassesOwn.never rfl (pi_range2 rfl T.n_range (pa_cons pe_int (pa_cons pe_int pa_nil))) (pg_name (i := 2) sc_spread_block_1.nd rfl (Or.inl rfl)) (pss_one (ps_expr (pe_bm PySem.F.plainAttrs_list PySem.F.slot_list_append PySem.F.type_list_append mt_append (pv 1) (pa_cons (pe_fn C_turn_left (hr.mono (by decide)) rfl (pa_cons (pe_op op_xor (pe_op op_xor (pe_op op_xor (pe_ix (ix_listK (K := K) rfl) (pv 1) (pe_op op_sub (pv 2) pe_int) (fun _ _ => rfl)) (pe_ix (ix_listK (K := K) rfl) (pv 1) (pe_op op_sub (pv 2) pe_int) (fun _ _ => rfl))) (pe_ix (ix_listK (K := K) rfl) (pv 1) (pe_op op_sub (pv 2) pe_int) (fun _ _ => rfl))) (pe_ix (ix_listK (K := K) rfl) (pv 1) (pe_op op_sub (pv 2) pe_int) (fun _ _ => rfl))) (pa_cons pe_int pa_nil))) pa_nil)))))
      (pss_one (ps_ret (pv 1))))), ?_⟩
  have L0 := Loc.start H
  have wl : (Sy22.wordsOf b).length = 16 := by rw [words_len, hl]
  have ww := words_ws hb
  rw [more1_eq] at k
  walk_at "init"
  refine use_words_of L0 hs hb hl fun p H1 L1 => ?_
  walk_at "go"
  refine ⟨_, _, rfl, by decide, ?_⟩
  refine f_range (n := 64) (fun i σ H' => ∃ (v2 : Option V), σ = [some (.ref a), some (.ref p), v2] ∧ Loc H H' [(p, .lst (nv (it sp1 (Sy22.wordsOf b) i)))]) ⟨_, rfl, L1⟩ ?_ ?_
  · rintro i σ H2 hi ⟨v2, rfl, L2⟩
    rw [show ((16 : Nat) : Int) + (i : Int) = ((16 + i : Nat) : Int) by omega]
    have il := it_len1 (Sy22.wordsOf b) i
    have iw := it_ws1 ww i
    rw [wl] at il
    have e := sp1_at il
    rw [show it sp1 (Sy22.wordsOf b) (i + 1) = sp1 (it sp1 (Sy22.wordsOf b) i) from rfl]
    rw [e]
    generalize it sp1 (Sy22.wordsOf b) i = W at *
    walk_at "go"
    refine use_turn_left (xor32 (xor32 (xor32 (iw.at_ _) (iw.at_ _)) (iw.at_ _)) (iw.at_ _)) (by decide) ?_
    walk_at "app"
    exact ⟨_, rfl, by assumption⟩
  · rintro σ H2 ⟨v2, rfl, L2⟩
    walk_at "go"
    exact k p H2 L2
theorem use_spread_block_1 {H H0 : Hp} {ls : List (Addr × HO)} {Q : VK} {E : XK} {a : Addr} {b : List Nat} (L : Loc H0 H ls) (hs : SqL K H a (nv b)) (hb : Bytes b) (hl : b.length = 64) (q : ∀ p H', Loc H0 H' (ls ++ [(p, .lst (nv (Sy22.more1 (Sy22.wordsOf b))))]) → Q (.ref p) H') : sp_spread_block_1 K ([.ref a] ++ []) H Q E :=
  ⟨a, b, rfl, hs, hb, hl, fun p H' M => q p H' (L.calls M)⟩
/-! spread_block_2 -/
def sp_spread_block_2 (K : PySem.W.Frag) : Sp := fun vs H Q _ => ∃ (a : Addr) (b : List Nat), vs = [.ref a] ∧ SqL K H a (nv b) ∧ Bytes b ∧ b.length = 64 ∧ ∀ p H', Loc H H' [(p, .lst (nv (Sy22.more2 (Sy22.wordsOf b))))] → Q (.ref p) H'
abbrev s_spread_block_2 : Stmt := top 28
theorem sc_spread_block_2 : FnScope ["block", "words", "at", "early", "late"] ["block"] (defScope s_spread_block_2) := ⟨rfl, rfl, rfl, by decide +kernel, rfl, by decide +kernel, by decide +kernel⟩
theorem ok_spread_block_2 {f : Addr} {fd : FuncData} (F : Fun K "spread_block_2" "spread_block_2" s_spread_block_2 f fd) (T : Txt K mg ad) (C_turn_and_shift : Callee P w K mg base 1 "turn_and_shift" ["word", "first", "second", "shift"] (sp_turn_and_shift K)) (C_words_of : Callee P w K mg base 2 "words_of" ["block"] (sp_words_of K)) : FnOk P w K mg base CX0 3 f fd ["block"] (sp_spread_block_2 K) := by
  refine F.ok sc_spread_block_2 (fun vs H Q E h => ?_) (fun cdv A outer s H vs Q E hr h => ?_)
  · obtain ⟨a, b, rfl, _⟩ := h; rfl
  obtain ⟨a, b, rfl, hs, hb, hl, k⟩ := h
  refine ⟨_, (pss_cons (ps_set (i := 1) sc_spread_block_2.nd rfl (Or.inl rfl) (pe_fn C_words_of (hr.mono (by decide)) rfl (pa_cons (pv 0) pa_nil)))
      (pss_cons (ps_for PassesOwn.never rfl (pi_range2 rfl T.n_range (pa_cons pe_int (pa_cons pe_int pa_nil))) (pg_name (i := 2) sc_spread_block_2.nd rfl (Or.inl rfl)) (pss_cons (ps_set (i := 3) sc_spread_block_2.nd rfl (Or.inl rfl) (pe_fn C_turn_and_shift (hr.mono (by decide)) rfl (pa_cons (pe_ix (ix_listK (K := K) rfl) (pv 1) (pe_op op_sub (pv 2) pe_int) (fun _ _ => rfl)) (pa_cons pe_int (pa_cons pe_int (pa_cons pe_int pa_nil))))))
      (pss_cons (ps_set (i := 4) sc_spread_block_2.nd rfl (Or.inl rfl) (pe_fn C_turn_and_shift (hr.mono (by decide)) rfl (pa_cons (pe_ix (ix_listK (K := K) rfl) (pv 1) (pe_op op_sub (pv 2) pe_int) (fun _ _ => rfl)) (pa_cons pe_int (pa_cons pe_int (pa_cons pe_int pa_nil))))))
      (pss_one (ps_expr (pe_bm PySem.F.plainAttrs_list PySem.F.slot_list_append PySem.F.type_list_append mt_append (pv 1) (pa_cons (pe_op op_and (pe_op op_add (pe_op op_add (pe_op op_add (pe_ix (ix_listK (K := K) rfl) (pv 1) (pe_op op_sub (pv 2) pe_int) (fun _ _ => rfl)) (pv 3)) (pe_ix (ix_listK (K := K) rfl) (pv 1) (pe_op op_sub (pv 2) pe_int) (fun _ _ => rfl))) (pv 4)) (pe_glob (v := .int 4294967295) rfl T.g_MASK.choose_spec ⟨_, rfl⟩)) pa_nil)))))))
      (pss_one (ps_ret (pv 1))))), ?_⟩
  have L0 := Loc.start H
  have wl : (Sy22.wordsOf b).length = 16 := by rw [words_len, hl]
  have ww := words_ws hb
  rw [more2_eq] at k
  walk_at "init"
  refine use_words_of L0 hs hb hl fun p H1 L1 => ?_
  walk_at "go"
  refine ⟨_, _, rfl, by decide, ?_⟩
  refine f_range (n := 48) (fun i σ H' => ∃ (v2 v3 v4 : Option V), σ = [some (.ref a), some (.ref p), v2, v3, v4] ∧ Loc H H' [(p, .lst (nv (it sp2 (Sy22.wordsOf b) i)))]) ⟨_, _, _, rfl, L1⟩ ?_ ?_
  · rintro i σ H2 hi ⟨v2, v3, v4, rfl, L2⟩
    rw [show ((16 : Nat) : Int) + (i : Int) = ((16 + i : Nat) : Int) by omega]
    have il := it_len2 (Sy22.wordsOf b) i
    have iw := it_ws2 ww i
    rw [wl] at il
    have e := sp2_at il
    rw [show it sp2 (Sy22.wordsOf b) (i + 1) = sp2 (it sp2 (Sy22.wordsOf b) i) from rfl]
    rw [e]
    generalize it sp2 (Sy22.wordsOf b) i = W at *
    walk_at "go"
    refine use_turn_and_shift (iw.at_ _) (by decide) (by decide) ?_
    walk_at "go"
    refine use_turn_and_shift (iw.at_ _) (by decide) (by decide) ?_
    walk_at "app"
    exact ⟨_, _, _, rfl, by assumption⟩
  · rintro σ H2 ⟨v2, v3, v4, rfl, L2⟩
    walk_at "go"
    exact k p H2 L2
theorem use_spread_block_2 {H H0 : Hp} {ls : List (Addr × HO)} {Q : VK} {E : XK} {a : Addr} {b : List Nat} (L : Loc H0 H ls) (hs : SqL K H a (nv b)) (hb : Bytes b) (hl : b.length = 64) (q : ∀ p H', Loc H0 H' (ls ++ [(p, .lst (nv (Sy22.more2 (Sy22.wordsOf b))))]) → Q (.ref p) H') : sp_spread_block_2 K ([.ref a] ++ []) H Q E :=
  ⟨a, b, rfl, hs, hb, hl, fun p H' M => q p H' (L.calls M)⟩
/-! choose_1 -/
def cho (t b c d : Nat) : Nat := if t < 20 then (b &&& c) ||| (Sy22.other b &&& d) else if 40 ≤ t ∧ t < 60 then (b &&& c) ||| ((b &&& d) ||| (c &&& d)) else b ^^^ (c ^^^ d)
def sp_choose_1 (K : PySem.W.Frag) : Sp := fun vs H Q _ => ∃ (t b c d : Nat), vs = [.int (t : Int), .int (b : Int), .int (c : Int), .int (d : Int)] ∧ b < 2 ^ 32 ∧ d < 2 ^ 32 ∧ Q (.int ((cho t b c d : Nat) : Int)) H
abbrev s_choose_1 : Stmt := top 26
theorem sc_choose_1 : FnScope ["at", "b", "c", "d"] ["at", "b", "c", "d"] (defScope s_choose_1) := ⟨rfl, rfl, rfl, by decide +kernel, rfl, by decide +kernel, by decide +kernel⟩
theorem ok_choose_1 {f : Addr} {fd : FuncData} (F : Fun K "choose_1" "choose_1" s_choose_1 f fd) (T : Txt K mg ad)  : FnOk P w K mg base CX0 1 f fd ["at", "b", "c", "d"] (sp_choose_1 K) := by
  refine F.ok sc_choose_1 (fun vs H Q E h => ?_) (fun cdv A outer s H vs Q E hr h => ?_)
  · obtain ⟨t, b, c, d, rfl, _⟩ := h; rfl
  obtain ⟨t, b, c, d, rfl, hb, hd, q⟩ := h
  refine ⟨_, (pss_cons (ps_if (pt_cmpR op_lt (pv 0) pe_int (nomark _)) (pss_one (ps_ret (pe_op op_xor (pv 3) (pe_op op_and (pv 1) (pe_op op_xor (pv 2) (pv 3)))))) pss_nil)
      (pss_cons (ps_if (pt_chain op_le op_lt pe_int (pv 0) pe_int) (pss_one (ps_ret (pe_op op_or (pe_op op_and (pv 1) (pv 2)) (pe_op op_and (pv 3) (pe_op op_or (pv 1) (pv 2)))))) pss_nil)
      (pss_one (ps_ret (pe_op op_xor (pe_op op_xor (pv 1) (pv 2)) (pv 3)))))), ?_⟩
  unfold cho at q
  walk_at "init"
  refine r_if (fun hc => ?_) (fun hc => ?_)
  · rw [if_pos hc] at q
    walk_at "go"
    rw [ch1_eq hb hd]
    exact q
  · rw [if_neg hc] at q
    walk_at "go"
    refine r_if (fun hc2 => ?_) (fun hc2 => ?_)
    · walk_at "go"
      refine r_if (fun hc3 => ?_) (fun hc3 => ?_)
      · rw [if_pos ⟨hc2, hc3⟩] at q
        walk_at "go"
        rw [maj1_eq]
        exact q
      · rw [if_neg (by omega)] at q
        walk_at "go"
        rw [Nat.xor_assoc]
        exact q
    · rw [if_neg (by omega)] at q
      walk_at "go"
      refine ite_ff ?_
      walk_at "go"
      rw [Nat.xor_assoc]
      exact q
theorem use_choose_1 {H : Hp} {Q : VK} {E : XK} {t b c d : Nat} (hb : b < 2 ^ 32) (hd : d < 2 ^ 32) (q : Q (.int ((cho t b c d : Nat) : Int)) H) : sp_choose_1 K ([.int (t : Int), .int (b : Int), .int (c : Int), .int (d : Int)] ++ []) H Q E := ⟨t, b, c, d, rfl, hb, hd, q⟩
end
end
section
section
variable {P : Program} {w : World} {K : PySem.W.Frag} {mg : Str → Option Value} {base : Heap} {ad : Adr}
/-! add_block_2 -/
def sp_add_block_2 (K : PySem.W.Frag) : Sp := fun vs H Q _ => ∃ (a c : Addr) (s b : List Nat), vs = [.ref a, .ref c] ∧ SqL K H a (nv s) ∧ SqL K H c (nv b) ∧ St 2 s ∧ Bytes b ∧ b.length = 64 ∧ ∀ p H', Loc H H' [(p, .lst (nv (Sy22.block2 s b)))] → Q (.ref p) H'
abbrev s_add_block_2 : Stmt := top 29
theorem sc_add_block_2 : FnScope ["state", "block", "words", "a", "b", "c", "d", "e", "f", "g", "h", "at", "step", "other", "was", "now"] ["state", "block"] (defScope s_add_block_2) := ⟨rfl, rfl, rfl, by decide +kernel, rfl, by decide +kernel, by decide +kernel⟩
theorem ok_add_block_2 {f : Addr} {fd : FuncData} (F : Fun K "add_block_2" "add_block_2" s_add_block_2 f fd) (T : Txt K mg ad) (C_turn_thrice : Callee P w K mg base 1 "turn_thrice" ["word", "first", "second", "third"] (sp_turn_thrice K)) (C_spread_block_2 : Callee P w K mg base 3 "spread_block_2" ["block"] (sp_spread_block_2 K)) : FnOk P w K mg base CX0 4 f fd ["state", "block"] (sp_add_block_2 K) := by
  refine F.ok sc_add_block_2 (fun vs H Q E h => ?_) (fun cdv A outer s H vs Q E hr h => ?_)
  · obtain ⟨a, c, s, b, rfl, _⟩ := h; rfl
  obtain ⟨a, c, st, b, rfl, hs, hc, hst, hb, hl, k⟩ := h
  refine ⟨_, (pss_cons (ps_set (i := 2) sc_add_block_2.nd rfl (Or.inl rfl) (pe_fn C_spread_block_2 (hr.mono (by decide)) rfl (pa_cons (pv 1) pa_nil)))
      (pss_cons (ps_set (i := 3) sc_add_block_2.nd rfl (Or.inl rfl) (pe_ix (ix_listK (K := K) rfl) (pv 0) pe_int (fun _ _ => rfl)))
      (pss_cons (ps_set (i := 4) sc_add_block_2.nd rfl (Or.inl rfl) (pe_ix (ix_listK (K := K) rfl) (pv 0) pe_int (fun _ _ => rfl)))
      (pss_cons (ps_set (i := 5) sc_add_block_2.nd rfl (Or.inl rfl) (pe_ix (ix_listK (K := K) rfl) (pv 0) pe_int (fun _ _ => rfl)))
      (pss_cons (ps_set (i := 6) sc_add_block_2.nd rfl (Or.inl rfl) (pe_ix (ix_listK (K := K) rfl) (pv 0) pe_int (fun _ _ => rfl)))
      (pss_cons (ps_set (i := 7) sc_add_block_2.nd rfl (Or.inl rfl) (pe_ix (ix_listK (K := K) rfl) (pv 0) pe_int (fun _ _ => rfl)))
      (pss_cons (ps_set (i := 8) sc_add_block_2.nd rfl (Or.inl rfl) (pe_ix (ix_listK (K := K) rfl) (pv 0) pe_int (fun _ _ => rfl)))
      (pss_cons (ps_set (i := 9) sc_add_block_2.nd rfl (Or.inl rfl) (pe_ix (ix_listK (K := K) rfl) (pv 0) pe_int (fun _ _ => rfl)))
      (pss_cons (ps_set (i := 10) sc_add_block_2.nd rfl (Or.inl rfl) (pe_ix (ix_listK (K := K) rfl) (pv 0) pe_int (fun _ _ => rfl)))
      (pss_cons (ps_for PassesOwn.never rfl (pi_range1 rfl T.n_range (pa_cons pe_int pa_nil)) (pg_name (i := 11) sc_add_block_2.nd rfl (Or.inl rfl)) (pss_cons (ps_set (i := 12) sc_add_block_2.nd rfl (Or.inl rfl) (pe_op op_add (pe_op op_add (pe_op op_add (pe_op op_add (pv 10) (pe_fn C_turn_thrice (hr.mono (by decide)) rfl (pa_cons (pv 7) (pa_cons pe_int (pa_cons pe_int (pa_cons pe_int pa_nil)))))) (pe_op op_xor (pv 9) (pe_op op_and (pv 7) (pe_op op_xor (pv 8) (pv 9))))) (pe_ix (ix_tupK (K := K) rfl) (pe_glob (v := .ref ad.CONSTANTS_2) rfl T.g_CONSTANTS_2 rfl) (pv 11) (fun _ _ => rfl))) (pe_ix (ix_listK (K := K) rfl) (pv 2) (pv 11) (fun _ _ => rfl))))
      (pss_cons (ps_set (i := 13) sc_add_block_2.nd rfl (Or.inl rfl) (pe_op op_add (pe_fn C_turn_thrice (hr.mono (by decide)) rfl (pa_cons (pv 3) (pa_cons pe_int (pa_cons pe_int (pa_cons pe_int pa_nil))))) (pe_op op_or (pe_op op_and (pv 3) (pv 4)) (pe_op op_and (pv 5) (pe_op op_or (pv 3) (pv 4))))))
      (pss_cons (ps_set (i := 10) sc_add_block_2.nd rfl (Or.inl rfl) (pv 9))
      (pss_cons (ps_set (i := 9) sc_add_block_2.nd rfl (Or.inl rfl) (pv 8))
      (pss_cons (ps_set (i := 8) sc_add_block_2.nd rfl (Or.inl rfl) (pv 7))
      (pss_cons (ps_set (i := 7) sc_add_block_2.nd rfl (Or.inl rfl) (pe_op op_and (pe_op op_add (pv 6) (pv 12)) (pe_glob (v := .int 4294967295) rfl T.g_MASK.choose_spec ⟨_, rfl⟩)))
      (pss_cons (ps_set (i := 6) sc_add_block_2.nd rfl (Or.inl rfl) (pv 5))
      (pss_cons (ps_set (i := 5) sc_add_block_2.nd rfl (Or.inl rfl) (pv 4))
      (pss_cons (ps_set (i := 4) sc_add_block_2.nd rfl (Or.inl rfl) (pv 3))
      (pss_one (ps_set (i := 3) sc_add_block_2.nd rfl (Or.inl rfl) (pe_op op_and (pe_op op_add (pv 12) (pv 13)) (pe_glob (v := .int 4294967295) rfl T.g_MASK.choose_spec ⟨_, rfl⟩))))))))))))))
      (pss_one (ps_ret (pe_lc rfl sc_add_block_2.nd (pi_zipK (K := K) rfl rfl T.n_zip (pa_cons (pv 0) (pa_cons (pe_lst (pa_cons (pv 3) (pa_cons (pv 4) (pa_cons (pv 5) (pa_cons (pv 6) (pa_cons (pv 7) (pa_cons (pv 8) (pa_cons (pv 9) (pa_cons (pv 10) pa_nil))))))))) pa_nil))) (blkOk_by (own := [("was", 14), ("now", 15)]) (by show blkC ["state", "block", "words", "a", "b", "c", "d", "e", "f", "g", "h", "at", "step", "other", "was", "now"] (defScope s_add_block_2) _ _ = true; decide +kernel)) (fun _ _ _ _ _ => (pg_tupK (K := K) (n := 2) rfl rfl (pgs_cons (pg_name (i := 14) sc_add_block_2.nd rfl (Or.inl rfl)) (pgs_cons (pg_name (i := 15) sc_add_block_2.nd rfl (Or.inl rfl)) pgs_nil)))) (fun _ _ _ _ _ => pts_nil) (fun _ _ _ _ _ => (pe_op op_and (pe_op op_add (pv 14) (pv 15)) (pe_glob (v := .int 4294967295) rfl T.g_MASK.choose_spec ⟨_, rfl⟩)))))))))))))))), ?_⟩
  have L0 := Loc.start H
  have sl : st.length = 8 := hst.len
  have tC : ∀ H, SqT K H ad.CONSTANTS_2 (nv K2) := T.t_CONSTANTS_2
  have kl : K2.length = 64 := rfl
  have wl : (Sy22.more2 (Sy22.wordsOf b)).length = 64 := by rw [more2_eq, it_len2, words_len, hl]
  have eb := block2_cur st b
  rw [eb] at k
  walk_at "init"
  refine use_spread_block_2 L0 hc hb hl fun p H1 L1 => ?_
  have hs1 := L1.arg hs
  generalize Sy22.more2 (Sy22.wordsOf b) = W at *
  walk_at "go"
  refine ⟨64, rfl, by decide, by decide, ?_⟩
  refine f_range (n := 64) (fun i σ H' => ∃ (v11 v12 v13 : Option V), σ = [some (.ref a), some (.ref c), some (.ref p), some (.int (((cur2 W st i).getD 0 0 : Nat) : Int)), some (.int (((cur2 W st i).getD 1 0 : Nat) : Int)), some (.int (((cur2 W st i).getD 2 0 : Nat) : Int)), some (.int (((cur2 W st i).getD 3 0 : Nat) : Int)), some (.int (((cur2 W st i).getD 4 0 : Nat) : Int)), some (.int (((cur2 W st i).getD 5 0 : Nat) : Int)), some (.int (((cur2 W st i).getD 6 0 : Nat) : Int)), some (.int (((cur2 W st i).getD 7 0 : Nat) : Int)), v11, v12, v13, none, none] ∧ H' = H1) ⟨_, _, _, rfl, rfl⟩ ?_ ?_
  · rintro i σ H2 hi ⟨v11, v12, v13, rfl, rfl⟩
    have hi : i < 64 := hi
    rw [Int.zero_add]
    obtain ⟨cl, cw⟩ := cur2_ok (W := W) sl hst.ws i
    rw [cur2_succ]
    unfold Sy22.step2
    generalize cur2 W st i = C at *
    walk_at "go"
    refine use_turn_thrice (cw.at_ _) (by decide) (by decide) (by decide) ?_
    walk_at "go"
    refine use_turn_thrice (cw.at_ _) (by decide) (by decide) (by decide) ?_
    walk_at "go"
    rw [mask_eq, mask_eq, ch2_eq (cw.at_ 4) (cw.at_ 6), maj2_eq, cubes_eq]
    exact ⟨_, _, _, rfl, rfl⟩
  · rintro σ H2 ⟨v11, v12, v13, rfl, rfl⟩
    obtain ⟨cl, cw⟩ := cur2_ok (W := W) sl hst.ws 64
    walk_at "go"
    apply r_new L1 (by show 8 ≤ sizeLine; decide)
    intro p2 H3 L3
    have e8 := eight cl
    generalize cur2 W st 64 = C at *
    have L3 : Loc H H3 [(p, .lst (nv W)), (p2, .lst (nv C))] := by rw [e8]; exact L3
    have hs3 := L3.arg hs
    walk_at "go"
    refine lc_z (xs := st) (ys := C) L3 hs3 (L3.lst 1 rfl) (by rw [sl, cl]) (by rw [sl]; decide) (fun i => (st.getD i 0 + C.getD i 0) &&& 4294967295) ?_ ?_
    · intro i hi H4 D T o o' R L4 r
      simp only [wipe, List.foldl_cons, List.foldl_nil, List.set_cons_zero, List.set_cons_succ]
      walk_at "go"
      exact r
    · intro D H4 L4
      rw [added_range (by rw [sl, cl])] at L4
      exact k D H4 (L4.pick 2 rfl)
theorem use_add_block_2 {H H0 : Hp} {ls : List (Addr × HO)} {Q : VK} {E : XK} {a c : Addr} {s b : List Nat} (L : Loc H0 H ls) (hs : SqL K H a (nv s)) (hc : SqL K H c (nv b)) (hst : St 2 s) (hb : Bytes b) (hl : b.length = 64) (q : ∀ p H', Loc H0 H' (ls ++ [(p, .lst (nv (Sy22.block2 s b)))]) → Q (.ref p) H') : sp_add_block_2 K ([.ref a, .ref c] ++ []) H Q E :=
  ⟨a, c, s, b, rfl, hs, hc, hst, hb, hl, fun p H' M => q p H' (L.calls M)⟩
end
end
section
section
variable {P : Program} {w : World} {K : PySem.W.Frag} {mg : Str → Option Value} {base : Heap} {ad : Adr}
/-! add_block_1 -/
def sp_add_block_1 (K : PySem.W.Frag) : Sp := fun vs H Q _ => ∃ (a c : Addr) (s b : List Nat), vs = [.ref a, .ref c] ∧ SqL K H a (nv s) ∧ SqL K H c (nv b) ∧ St 1 s ∧ Bytes b ∧ b.length = 64 ∧ ∀ p H', Loc H H' [(p, .lst (nv (Sy22.block1 s b)))] → Q (.ref p) H'
abbrev s_add_block_1 : Stmt := top 27
theorem sc_add_block_1 : FnScope ["state", "block", "words", "a", "b", "c", "d", "e", "at", "step", "was", "now"] ["state", "block"] (defScope s_add_block_1) := ⟨rfl, rfl, rfl, by decide +kernel, rfl, by decide +kernel, by decide +kernel⟩
theorem ok_add_block_1 {f : Addr} {fd : FuncData} (F : Fun K "add_block_1" "add_block_1" s_add_block_1 f fd) (T : Txt K mg ad) (C_turn_left : Callee P w K mg base 1 "turn_left" ["word", "count"] (sp_turn_left K)) (C_spread_block_1 : Callee P w K mg base 3 "spread_block_1" ["block"] (sp_spread_block_1 K)) (C_choose_1 : Callee P w K mg base 1 "choose_1" ["at", "b", "c", "d"] (sp_choose_1 K)) : FnOk P w K mg base CX0 4 f fd ["state", "block"] (sp_add_block_1 K) := by
  refine F.ok sc_add_block_1 (fun vs H Q E h => ?_) (fun cdv A outer s H vs Q E hr h => ?_)
  · obtain ⟨a, c, s, b, rfl, _⟩ := h; rfl
  obtain ⟨a, c, st, b, rfl, hs, hc, hst, hb, hl, k⟩ := h
  refine ⟨_, (pss_cons (ps_set (i := 2) sc_add_block_1.nd rfl (Or.inl rfl) (pe_fn C_spread_block_1 (hr.mono (by decide)) rfl (pa_cons (pv 1) pa_nil)))
      (pss_cons (ps_set (i := 3) sc_add_block_1.nd rfl (Or.inl rfl) (pe_ix (ix_listK (K := K) rfl) (pv 0) pe_int (fun _ _ => rfl)))
      (pss_cons (ps_set (i := 4) sc_add_block_1.nd rfl (Or.inl rfl) (pe_ix (ix_listK (K := K) rfl) (pv 0) pe_int (fun _ _ => rfl)))
      (pss_cons (ps_set (i := 5) sc_add_block_1.nd rfl (Or.inl rfl) (pe_ix (ix_listK (K := K) rfl) (pv 0) pe_int (fun _ _ => rfl)))
      (pss_cons (ps_set (i := 6) sc_add_block_1.nd rfl (Or.inl rfl) (pe_ix (ix_listK (K := K) rfl) (pv 0) pe_int (fun _ _ => rfl)))
      (pss_cons (ps_set (i := 7) sc_add_block_1.nd rfl (Or.inl rfl) (pe_ix (ix_listK (K := K) rfl) (pv 0) pe_int (fun _ _ => rfl)))
      (pss_cons (ps_for PassesOwn.never rfl (pi_range1 rfl T.n_range (pa_cons pe_int pa_nil)) (pg_name (i := 8) sc_add_block_1.nd rfl (Or.inl rfl)) (pss_cons (ps_set (i := 9) sc_add_block_1.nd rfl (Or.inl rfl) (pe_op op_add (pe_op op_add (pe_op op_add (pe_op op_add (pe_fn C_turn_left (hr.mono (by decide)) rfl (pa_cons (pv 3) (pa_cons pe_int pa_nil))) (pe_fn C_choose_1 (hr.mono (by decide)) rfl (pa_cons (pv 8) (pa_cons (pv 4) (pa_cons (pv 5) (pa_cons (pv 6) pa_nil)))))) (pv 7)) (pe_ix (ix_tupK (K := K) rfl) (pe_glob (v := .ref ad.CONSTANTS_1) rfl T.g_CONSTANTS_1 rfl) (pe_op op_fdiv (pv 8) pe_int) (fun _ _ => rfl))) (pe_ix (ix_listK (K := K) rfl) (pv 2) (pv 8) (fun _ _ => rfl))))
      (pss_cons (ps_set (i := 7) sc_add_block_1.nd rfl (Or.inl rfl) (pv 6))
      (pss_cons (ps_set (i := 6) sc_add_block_1.nd rfl (Or.inl rfl) (pv 5))
      (pss_cons (ps_set (i := 5) sc_add_block_1.nd rfl (Or.inl rfl) (pe_fn C_turn_left (hr.mono (by decide)) rfl (pa_cons (pv 4) (pa_cons pe_int pa_nil))))
      (pss_cons (ps_set (i := 4) sc_add_block_1.nd rfl (Or.inl rfl) (pv 3))
      (pss_one (ps_set (i := 3) sc_add_block_1.nd rfl (Or.inl rfl) (pe_op op_and (pv 9) (pe_glob (v := .int 4294967295) rfl T.g_MASK.choose_spec ⟨_, rfl⟩))))))))))
      (pss_one (ps_ret (pe_lc rfl sc_add_block_1.nd (pi_zipK (K := K) rfl rfl T.n_zip (pa_cons (pv 0) (pa_cons (pe_lst (pa_cons (pv 3) (pa_cons (pv 4) (pa_cons (pv 5) (pa_cons (pv 6) (pa_cons (pv 7) pa_nil)))))) pa_nil))) (blkOk_by (own := [("was", 10), ("now", 11)]) (by show blkC ["state", "block", "words", "a", "b", "c", "d", "e", "at", "step", "was", "now"] (defScope s_add_block_1) _ _ = true; decide +kernel)) (fun _ _ _ _ _ => (pg_tupK (K := K) (n := 2) rfl rfl (pgs_cons (pg_name (i := 10) sc_add_block_1.nd rfl (Or.inl rfl)) (pgs_cons (pg_name (i := 11) sc_add_block_1.nd rfl (Or.inl rfl)) pgs_nil)))) (fun _ _ _ _ _ => pts_nil) (fun _ _ _ _ _ => (pe_op op_and (pe_op op_add (pv 10) (pv 11)) (pe_glob (v := .int 4294967295) rfl T.g_MASK.choose_spec ⟨_, rfl⟩))))))))))))), ?_⟩
  have L0 := Loc.start H
  have sl : st.length = 5 := hst.len
  have tC : ∀ H, SqT K H ad.CONSTANTS_1 (nv K1) := T.t_CONSTANTS_1
  have kl : K1.length = 4 := rfl
  have wl : (Sy22.more1 (Sy22.wordsOf b)).length = 80 := by rw [more1_eq, it_len1, words_len, hl]
  have eb := block1_cur st b
  rw [eb] at k
  walk_at "init"
  refine use_spread_block_1 L0 hc hb hl fun p H1 L1 => ?_
  have hs1 := L1.arg hs
  generalize Sy22.more1 (Sy22.wordsOf b) = W at *
  walk_at "go"
  refine ⟨80, rfl, by decide, by decide, ?_⟩
  refine f_range (n := 80) (fun i σ H' => ∃ (v8 v9 : Option V), σ = [some (.ref a), some (.ref c), some (.ref p), some (.int (((cur1 W st i).getD 0 0 : Nat) : Int)), some (.int (((cur1 W st i).getD 1 0 : Nat) : Int)), some (.int (((cur1 W st i).getD 2 0 : Nat) : Int)), some (.int (((cur1 W st i).getD 3 0 : Nat) : Int)), some (.int (((cur1 W st i).getD 4 0 : Nat) : Int)), v8, v9, none, none] ∧ H' = H1) ⟨_, _, rfl, rfl⟩ ?_ ?_
  · rintro i σ H2 hi ⟨v8, v9, rfl, rfl⟩
    have hi : i < 80 := hi
    rw [Int.zero_add]
    obtain ⟨cl, cw⟩ := cur1_ok (W := W) sl hst.ws i
    rw [cur1_succ]
    unfold Sy22.step1
    generalize cur1 W st i = C at *
    walk_at "go"
    refine use_turn_left (cw.at_ _) (by decide) ?_
    walk_at "go"
    refine use_choose_1 (cw.at_ _) (cw.at_ _) ?_
    walk_at "go"
    refine use_turn_left (cw.at_ _) (by decide) ?_
    walk_at "go"
    simp only [cho, Sy22.at_, mask_eq, fours_eq, W32_eq, List.getD_cons_zero, List.getD_cons_succ]
    first | exact ⟨_, _, rfl, rfl⟩ | exact ⟨_, _, rfl, trivial⟩
  · rintro σ H2 ⟨v8, v9, rfl, rfl⟩
    obtain ⟨cl, cw⟩ := cur1_ok (W := W) sl hst.ws 80
    walk_at "go"
    apply r_new L1 (by show 5 ≤ sizeLine; decide)
    intro p2 H3 L3
    have e8 := five cl
    generalize cur1 W st 80 = C at *
    have L3 : Loc H H3 [(p, .lst (nv W)), (p2, .lst (nv C))] := by rw [e8]; exact L3
    have hs3 := L3.arg hs
    walk_at "go"
    refine lc_z (xs := st) (ys := C) L3 hs3 (L3.lst 1 rfl) (by rw [sl, cl]) (by rw [sl]; decide) (fun i => (st.getD i 0 + C.getD i 0) &&& 4294967295) ?_ ?_
    · intro i hi H4 D T o o' R L4 r
      simp only [wipe, List.foldl_cons, List.foldl_nil, List.set_cons_zero, List.set_cons_succ]
      walk_at "go"
      exact r
    · intro D H4 L4
      rw [added_range (by rw [sl, cl])] at L4
      exact k D H4 (L4.pick 2 rfl)
theorem use_add_block_1 {H H0 : Hp} {ls : List (Addr × HO)} {Q : VK} {E : XK} {a c : Addr} {s b : List Nat} (L : Loc H0 H ls) (hs : SqL K H a (nv s)) (hc : SqL K H c (nv b)) (hst : St 1 s) (hb : Bytes b) (hl : b.length = 64) (q : ∀ p H', Loc H0 H' (ls ++ [(p, .lst (nv (Sy22.block1 s b)))]) → Q (.ref p) H') : sp_add_block_1 K ([.ref a, .ref c] ++ []) H Q E :=
  ⟨a, c, s, b, rfl, hs, hc, hst, hb, hl, fun p H' M => q p H' (L.calls M)⟩
end
end
section
section
variable {P : Program} {w : World} {K : PySem.W.Frag} {mg : Str → Option Value} {base : Heap} {ad : Adr}
/-! add_blocks -/
theorem rng64 (m : Fin 100) : RgC ((0 : Nat) : Int) ((64 * m.1 : Nat) : Int) ((64 : Nat) : Int) m.1 := by
  have : ∀ m : Fin 100, Builtin.Range.small ((0 : Nat) : Int) ((64 * m.1 : Nat) : Int) ((64 : Nat) : Int) = true ∧ Builtin.Range.rangeSize ((0 : Nat) : Int) ((64 * m.1 : Nat) : Int) ((64 : Nat) : Int) = m.1 := by decide +kernel
  exact ⟨by decide, by decide, (this m).1, (this m).2⟩
def sp_add_blocks (K : PySem.W.Frag) : Sp := fun vs H Q _ => ∃ (a c : Addr) (kind : Nat) (s b : List Nat), vs = [.int (kind : Int), .ref a, .ref c] ∧ SqL K H a (nv s) ∧ SqL K H c (nv b) ∧ (kind = 1 ∨ kind = 2) ∧ St kind s ∧ Bytes b ∧ b.length % 64 = 0 ∧ b.length < 6400 ∧ ∀ p H' ms, Loc H H' ms → ((p = a ∧ fold kind s b = s) ∨ H p = none) → SqL K H' p (nv (fold kind s b)) → Q (.ref p) H'
abbrev s_add_blocks : Stmt := top 30
theorem sc_add_blocks : FnScope ["kind", "state", "data", "at", "block"] ["kind", "state", "data"] (defScope s_add_blocks) := ⟨rfl, rfl, rfl, by decide +kernel, rfl, by decide +kernel, by decide +kernel⟩
theorem ok_add_blocks {f : Addr} {fd : FuncData} (F : Fun K "add_blocks" "add_blocks" s_add_blocks f fd) (T : Txt K mg ad) (C_add_block_1 : Callee P w K mg base 4 "add_block_1" ["state", "block"] (sp_add_block_1 K)) (C_add_block_2 : Callee P w K mg base 4 "add_block_2" ["state", "block"] (sp_add_block_2 K)) : FnOk P w K mg base CX0 5 f fd ["kind", "state", "data"] (sp_add_blocks K) := by
  refine F.ok sc_add_blocks (fun vs H Q E h => ?_) (fun cdv A outer s H vs Q E hr h => ?_)
  · obtain ⟨a, c, kind, s, b, rfl, _⟩ := h; rfl
  obtain ⟨a, c, kind, st, b, rfl, hs, hc, hk, hst, hb, hl, hl2, k⟩ := h
  refine ⟨_, (pss_cons (ps_for PassesOwn.never rfl (pi_range3 rfl T.n_range (pa_cons pe_int (pa_cons (pe_callB (c_lenK (K := K) rfl) (by rfl) T.n_len b_len (pa_cons (pv 2) pa_nil)) (pa_cons (pe_glob (v := .int 64) rfl T.g_BLOCK.choose_spec ⟨_, rfl⟩) pa_nil)))) (pg_name (i := 3) sc_add_blocks.nd rfl (Or.inl rfl)) (pss_cons (ps_set (i := 4) sc_add_blocks.nd rfl (Or.inl rfl) (pe_slice (sl_listK (K := K) rfl) (pv 2) (po_some (pv 3)) (po_some (pe_op op_add (pv 3) (pe_glob (v := .int 64) rfl T.g_BLOCK.choose_spec ⟨_, rfl⟩)))))
      (pss_one (ps_set (i := 1) sc_add_blocks.nd rfl (Or.inl rfl) (pe_mid (pe_ifExp (pt_cmpR op_eq (pv 0) pe_int (nomark _)) (pe_fn C_add_block_1 (hr.mono (by decide)) rfl (pa_cons (pv 1) (pa_cons (pv 4) pa_nil))) (pe_fn C_add_block_2 (hr.mono (by decide)) rfl (pa_cons (pv 1) (pa_cons (pv 4) pa_nil)))))))))
      (pss_one (ps_ret (pv 1)))), ?_⟩
  have L0 := Loc.start H
  obtain ⟨m, hm⟩ : ∃ m, b.length = 64 * m := ⟨b.length / 64, by omega⟩
  walk_at "init"
  have hRg := rng64 ⟨m, by omega⟩
  rw [hm]
  refine ⟨_, _, _, m, rfl, hRg, f_rangeC (fun i σ H' => ∃ (q : Addr) (v3 v4 : Option V), σ = [some (.int (kind : Int)), some (.ref q), some (.ref c), v3, v4] ∧ Loc H H' [] ∧ ((q = a ∧ fold kind st (b.take (64 * i)) = st) ∨ H q = none) ∧ SqL K H' q (nv (fold kind st (b.take (64 * i))))) ⟨a, _, _, rfl, L0, .inl ⟨rfl, fold_zero _ _ _⟩, by rw [fold_zero]; exact hs⟩ ?_ ?_⟩
  · rintro i σ H2 hi ⟨q, v3, v4, rfl, L2, _, hq⟩
    rw [show ((0 : Nat) : Int) + (i : Int) * ((64 : Nat) : Int) = ((64 * i : Nat) : Int) by omega]
    have hst2 := fold_st hk hst (b.take (64 * i))
    rw [fold_snoc st b i (by omega)]
    have hc2 := L2.arg hc
    walk_at "go"
    apply r_slice (Loc.start H2) hc2
    intro e H5 M5
    rw [nv_cut2 (by omega) (by omega) (by omega), Int.toNat_natCast, Int.toNat_natCast] at M5
    have e5 : My.cut b (64 * i) (64 * i + 64) = Sy22.part b (64 * i) 64 := by unfold My.cut Sy22.part; rw [Nat.add_sub_cancel_left]
    rw [e5] at M5
    have hq5 := M5.same.seq hq
    have L5 := L2.then M5
    walk_at "go"
    refine r_midE (fun v H' => ∃ r, v = .ref r ∧ Loc H2 H' [(e, .lst (nv (Sy22.part b (64 * i) 64))), (r, .lst (nv (blk kind (fold kind st (b.take (64 * i))) (Sy22.part b (64 * i) 64))))]) ?_ ?_
    · walk_at "go"
      refine r_if (fun hc => ?_) (fun hc => ?_)
      · subst hc
        walk_at "go"
        refine use_add_block_1 M5 hq5 (M5.lst 0 rfl) hst2 (part_bytes hb _ _) (part_len (by omega)) fun r H6 M6 => ?_
        exact ⟨r, rfl, M6⟩
      · have hk2 : kind = 2 := by omega
        subst hk2
        walk_at "go"
        refine use_add_block_2 M5 hq5 (M5.lst 0 rfl) hst2 (part_bytes hb _ _) (part_len (by omega)) fun r H6 M6 => ?_
        exact ⟨r, rfl, M6⟩
    · rintro v H6 ⟨r, rfl, M6⟩
      walk_at "go"
      exact ⟨r, _, _, rfl, (L2.calls M6).nil, .inr ((L2.calls M6).fresh 1 rfl), M6.lst 1 rfl⟩
  · rintro σ H4 ⟨q, v3, v4, rfl, L4, hqa, hq⟩
    rw [← hm, List.take_length] at hq hqa
    walk_at "go"
    exact k q H4 _ L4 hqa hq
theorem use_add_blocks {H H0 : Hp} {ls : List (Addr × HO)} {Q : VK} {E : XK} {a c : Addr} {kind : Nat} {s b : List Nat} (L : Loc H0 H ls) (hs : SqL K H a (nv s)) (hc : SqL K H c (nv b)) (hk : kind = 1 ∨ kind = 2) (hst : St kind s) (hb : Bytes b) (hl : b.length % 64 = 0) (hl2 : b.length < 6400)
    (q : ∀ p H', Loc H0 H' ls → Same H H' → ((p = a ∧ fold kind s b = s) ∨ H p = none) → SqL K H' p (nv (fold kind s b)) → Q (.ref p) H') : sp_add_blocks K ([.int (kind : Int), .ref a, .ref c] ++ []) H Q E :=
  ⟨a, c, kind, s, b, rfl, hs, hc, hk, hst, hb, hl, hl2, fun p H' ms M hpa hp => q p H' ((L.calls M).sub (List.sublist_append_left _ _)) M.same hpa hp⟩
end
end
section
def fs_Summing (v0 v1 v2 v3 : V) : List (Str × V) := [("kind", v0), ("state", v1), ("waiting", v2), ("summed_length", v3)]
theorem get_Summing_kind {v0 v1 v2 v3 : V} : (fs_Summing v0 v1 v2 v3).lookup ("kind" : Str) = some v0 := by rfl
theorem put_Summing_kind {v0 v1 v2 v3 y : V} : putF "kind" y (fs_Summing v0 v1 v2 v3) = fs_Summing y v1 v2 v3 := by rfl
theorem get_Summing_state {v0 v1 v2 v3 : V} : (fs_Summing v0 v1 v2 v3).lookup ("state" : Str) = some v1 := by rfl
theorem put_Summing_state {v0 v1 v2 v3 y : V} : putF "state" y (fs_Summing v0 v1 v2 v3) = fs_Summing v0 y v2 v3 := by rfl
theorem get_Summing_waiting {v0 v1 v2 v3 : V} : (fs_Summing v0 v1 v2 v3).lookup ("waiting" : Str) = some v2 := by rfl
theorem put_Summing_waiting {v0 v1 v2 v3 y : V} : putF "waiting" y (fs_Summing v0 v1 v2 v3) = fs_Summing v0 v1 y v3 := by rfl
theorem get_Summing_summed_length {v0 v1 v2 v3 : V} : (fs_Summing v0 v1 v2 v3).lookup ("summed_length" : Str) = some v3 := by rfl
theorem put_Summing_summed_length {v0 v1 v2 v3 y : V} : putF "summed_length" y (fs_Summing v0 v1 v2 v3) = fs_Summing v0 v1 v2 y := by rfl
theorem no_Summing_add {v0 v1 v2 v3 : V} : (fs_Summing v0 v1 v2 v3).lookup ("add" : Str) = none := by rfl
theorem no_Summing_told {v0 v1 v2 v3 : V} : (fs_Summing v0 v1 v2 v3).lookup ("told" : Str) = none := by rfl

local macro_rules | `(tactic| walk_at "lk") => `(tactic| first | exact get_Summing_kind | exact get_Summing_state | exact get_Summing_waiting | exact get_Summing_summed_length | exact no_Summing_add | exact no_Summing_told | rfl)
local macro_rules | `(tactic| walk_at "put") => `(tactic| ((walk_at "go"); (walk_at "fp"); (intro H' L'); (simp only [put_Summing_kind, put_Summing_state, put_Summing_waiting, put_Summing_summed_length, List.set_cons_zero, List.set_cons_succ] at L'); (try walk_at "go")))
section
variable {P : Program} {w : World} {K : PySem.W.Frag} {mg : Str → Option Value} {base : Heap} {ad : Adr}
/-- a sum of kind over b under way, at x in H; the lists stand apart from it -/
def SumAt (K : PySem.W.Frag) (C : Addr) (H : Hp) (x : Addr) (kind : Nat) (b : List Nat) (o : HO) : Prop :=
  ∃ dx s t, o = .ins C dx (fs_Summing (.int (kind : Int)) (.ref s) (.ref t) (.int (b.length : Int))) ∧ SqL K (er H x) s (nv (stOf kind b)) ∧ SqL K (er H x) t (nv (wtOf b))
theorem SumAt.mono {C : Addr} {H H' : Hp} {x : Addr} {kind : Nat} {b : List Nat} {o : HO} (h : SumAt K C H x kind b o) (e : Same (er H x) (er H' x)) : SumAt K C H' x kind b o := by
  obtain ⟨dx, s, t, rfl, h1, h2⟩ := h
  exact ⟨dx, s, t, rfl, e.seq h1, e.seq h2⟩
theorem SumAt.up {C : Addr} {H : Hp} {x : Addr} {kind : Nat} {b : List Nat} {o : HO} {av : Addr → Prop} (h : SumAt K C (res H av) x kind b o) : SumAt K C H x kind b o := h.mono (same_er res_up x)
/-! __init__ -/
def sp_Summing_init (K : PySem.W.Frag) (ad : Adr) : Sp := fun vs H Q _ => ∃ (av : Addr → Prop) (x dx : Addr) (kind : Nat), (∀ b, av b → H b ≠ none) ∧ vs = [.ref x, .int (kind : Int)] ∧ H x = some (.ins ad.Summing dx []) ∧ (kind = 1 ∨ kind = 2) ∧ ∀ H' o ms, Loc (er H x) H' ((x, o) :: ms) → SumAt K ad.Summing (res H' av) x kind [] o → Q .non H'
abbrev s_Summing_init : Stmt := inClass (top 31) 0
theorem sc_Summing_init : FnScope ["self", "kind"] ["self", "kind"] (defScope s_Summing_init) := ⟨rfl, rfl, rfl, by decide +kernel, rfl, by decide +kernel, by decide +kernel⟩
theorem ok_Summing_init {f : Addr} {fd : FuncData} (F : Fun K "__init__" "Summing.__init__" s_Summing_init f fd) (T : Txt K mg ad)  : FnOk P w K mg base CX0 1 f fd ["self", "kind"] (sp_Summing_init K ad) := by
  refine F.ok sc_Summing_init (fun vs H Q E h => ?_) (fun cdv A outer s H vs Q E hr h => ?_)
  · obtain ⟨av, x, dx, kind, _, rfl, _⟩ := h; rfl
  obtain ⟨av, x, dx, kind, hav, rfl, hx, hk, k⟩ := h
  refine ⟨_, (pss_cons (ps_fld (pv 0) (pv 1) rfl)
      (pss_cons (ps_fld (pv 0) (pe_mid (pe_ifExp (pt_cmpR op_eq (pv 1) pe_int (nomark _)) (pe_callTy (c_listK (K := K) rfl) (by rfl) T.n_list b_list (pa_cons (pe_glob (v := .ref ad.START_1) rfl T.g_START_1 rfl) pa_nil)) (pe_callTy (c_listK (K := K) rfl) (by rfl) T.n_list b_list (pa_cons (pe_glob (v := .ref ad.START_2) rfl T.g_START_2 rfl) pa_nil)))) rfl)
      (pss_cons (ps_fld (pv 0) (pe_lst pa_nil) rfl)
      (pss_one (ps_fld (pv 0) pe_int rfl))))), ?_⟩
  have cC := T.c_Summing
  have n_kind := T.n_Summing_kind
  have n_state := T.n_Summing_state
  have n_waiting := T.n_Summing_waiting
  have n_summed_length := T.n_Summing_summed_length
  have L0 := Loc.self hx
  have t1 : ∀ H, SqT K H ad.START_1 (nv I1) := T.t_START_1
  have t2 : ∀ H, SqT K H ad.START_2 (nv I2) := T.t_START_2
  walk_at "init"
  walk_at "fp"
  intro H1 L1
  simp only [List.set_cons_zero] at L1
  walk_at "go"
  refine r_midE (fun v H' => ∃ s, v = .ref s ∧ Loc (er H x) H' [(x, .ins ad.Summing dx (putF "kind" (.int (kind : Int)) [])), (s, .lst (nv (start kind)))]) ?_ ?_
  · walk_at "go"
    refine r_if (fun hc => ?_) (fun hc => ?_)
    · subst hc
      walk_at "go"
      exact r_listT L1 (t1 _) fun s H2 L2 => ⟨s, rfl, L2⟩
    · have hk2 : kind = 2 := by omega
      subst hk2
      walk_at "go"
      exact r_listT L1 (t2 _) fun s H2 L2 => ⟨s, rfl, L2⟩
  · rintro v H2 ⟨s, rfl, L2⟩
    walk_at "go"
    walk_at "fp"
    intro H3 L3
    simp only [List.cons_append, List.nil_append, List.set_cons_zero] at L3
    walk_at "go"
    apply r_new L3 (by decide)
    intro t H4 L4
    walk_at "go"
    walk_at "fp"
    intro H5 L5
    simp only [List.cons_append, List.nil_append, List.set_cons_zero] at L5
    walk_at "go"
    walk_at "fp"
    intro H6 L6
    simp only [List.set_cons_zero] at L6
    walk_at "go"
    refine k H6 _ _ L6 ⟨dx, s, t, rfl, ?_, ?_⟩
    · rw [(st_nil kind).1]
      exact L6.lstR hav 0 1 rfl rfl
    · rw [(st_nil kind).2]
      exact L6.lstR hav 0 2 rfl rfl
/-! add -/
def sp_Summing_add (K : PySem.W.Frag) (ad : Adr) : Sp := fun vs H Q _ => ∃ (av : Addr → Prop) (x a : Addr) (kind : Nat) (b d : List Nat) (o : HO), (∀ b, av b → H b ≠ none) ∧ vs = [.ref x, .ref a] ∧ H x = some o ∧ SumAt K ad.Summing (res H av) x kind b o ∧ SqL K (er H x) a (nv d) ∧ (kind = 1 ∨ kind = 2) ∧ Bytes b ∧ Bytes d ∧ d.length < 6000 ∧ ∀ H' o' ms, Loc (er H x) H' ((x, o') :: ms) → SumAt K ad.Summing (res H' av) x kind (b ++ d) o' → Q .non H'
abbrev s_Summing_add : Stmt := inClass (top 31) 1
theorem sc_Summing_add : FnScope ["self", "data", "waiting", "whole"] ["self", "data"] (defScope s_Summing_add) := ⟨rfl, rfl, rfl, by decide +kernel, rfl, by decide +kernel, by decide +kernel⟩
theorem ok_Summing_add {f : Addr} {fd : FuncData} (F : Fun K "add" "Summing.add" s_Summing_add f fd) (T : Txt K mg ad) (C_add_blocks : Callee P w K mg base 5 "add_blocks" ["kind", "state", "data"] (sp_add_blocks K)) : FnOk P w K mg base CX0 6 f fd ["self", "data"] (sp_Summing_add K ad) := by
  refine F.ok sc_Summing_add (fun vs H Q E h => ?_) (fun cdv A outer s H vs Q E hr h => ?_)
  · obtain ⟨av, x, a, kind, b, d, o, _, rfl, _⟩ := h; rfl
  obtain ⟨av, x, a, kind, b, d, o, hav, rfl, hx, ⟨dx, s, t, rfl, rs, rt⟩, ha, hk, hb, hd, hl, k⟩ := h
  have up := same_er (H := res H av) (H' := H) res_up x
  have hs := up.seq rs
  have ht := up.seq rt
  refine ⟨_, (pss_cons (ps_set (i := 2) sc_Summing_add.nd rfl (Or.inl rfl) (pe_op (op_catK (K := K) rfl) (pe_fld (pv 0) rfl) (pv 1)))
      (pss_cons (ps_set (i := 3) sc_Summing_add.nd rfl (Or.inl rfl) (pe_op op_sub (pe_callB (c_lenK (K := K) rfl) (by rfl) T.n_len b_len (pa_cons (pv 2) pa_nil)) (pe_op op_mod (pe_callB (c_lenK (K := K) rfl) (by rfl) T.n_len b_len (pa_cons (pv 2) pa_nil)) (pe_glob (v := .int 64) rfl T.g_BLOCK.choose_spec ⟨_, rfl⟩))))
      (pss_cons (ps_fld (pv 0) (pe_fn C_add_blocks (hr.mono (by decide)) rfl (pa_cons (pe_fld (pv 0) rfl) (pa_cons (pe_fld (pv 0) rfl) (pa_cons (pe_slice (sl_listK (K := K) rfl) (pv 2) po_none (po_some (pv 3))) pa_nil)))) rfl)
      (pss_cons (ps_fld (pv 0) (pe_slice (sl_listK (K := K) rfl) (pv 2) (po_some (pv 3)) po_none) rfl)
      (pss_one (ps_fld (pv 0) (pe_op op_add (pe_fld (pv 0) rfl) (pe_callB (c_lenK (K := K) rfl) (by rfl) T.n_len b_len (pa_cons (pv 1) pa_nil))) rfl)))))), ?_⟩
  have cC := T.c_Summing
  have n_kind := T.n_Summing_kind
  have n_state := T.n_Summing_state
  have n_waiting := T.n_Summing_waiting
  have n_summed_length := T.n_Summing_summed_length
  have L0 := Loc.self hx
  have wl := wtOf_len b
  have bw := (wtOf_bytes hb).app hd
  have lw : (wtOf b ++ d).length = (wtOf b).length + d.length := List.length_append
  walk_at "init"
  refine r_cat2 L0 (L0.arg ht) (L0.arg ha) (by rw [sizeLine_eq]; omega) fun p1 H1 L1 => ?_
  walk_at "go"
  refine r_slice L1 (L1.lst 1 rfl) fun p2 H2 L2 => ?_
  rw [nv_cutTo (by omega) (by omega), Int.toNat_natCast] at L2
  walk_at "go"
  have lt : ((wtOf b ++ d).take ((wtOf b ++ d).length - (wtOf b ++ d).length % 64)).length = (wtOf b ++ d).length - (wtOf b ++ d).length % 64 := by rw [List.length_take]; omega
  refine use_add_blocks L2 (L2.arg hs) (L2.lst 2 rfl) hk (stOf_st hk b) (bw.take _) (by rw [lt]; omega) (by rw [lt]; omega) fun p3 H3 L3 sm3 hp3n h3 => ?_
  rw [st_add] at h3 hp3n
  have hx3 := L3.get 0 rfl
  have M3 := Loc.self hx3
  have hp1 : SqL K (er H3 x) p1 (nv (wtOf b ++ d)) := L3.lstE 0 1 rfl rfl
  have hav3 := avNext hav L3
  have hp3 : SqL K (er (res H3 av) x) p3 (nv (stOf kind (b ++ d))) := by
    rcases hp3n with ⟨e, es⟩ | hn
    · rw [es, e]
      exact (res_er L3.same).seq rs
    · have ne : p3 ≠ x := fun z => by
        rw [z, L2.get 0 rfl] at hn
        cases hn
      exact sq_res h3 hn (avNext hav L2) ne
  have ha3 : SqL K (er H3 x) a (nv d) := L3.argE 0 rfl ha
  walk_at "go"
  refine r_putF M3 0 rfl cC n_state (by walk_at "lt1000") fun H4 M4 => ?_
  simp only [put_Summing_state, List.set_cons_zero] at M4
  walk_at "go"
  refine r_slice M4 (M4.arg hp1) fun p4 H5 M5 => ?_
  rw [nv_cutFrom (by omega) (by omega), Int.toNat_natCast, wt_add] at M5
  walk_at "go"
  refine r_putF M5 0 rfl cC n_waiting (by walk_at "lt1000") fun H6 M6 => ?_
  simp only [put_Summing_waiting, List.cons_append, List.nil_append, List.set_cons_zero] at M6
  walk_at "go"
  refine r_putF M6 0 rfl cC n_summed_length (by walk_at "lt1000") fun H7 M7 => ?_
  simp only [put_Summing_summed_length, List.cons_append, List.nil_append, List.set_cons_zero] at M7
  rw [← List.length_append] at M7
  walk_at "go"
  exact k H7 _ _ (L3.meth 0 rfl M7) ⟨dx, p3, p4, rfl, (res_er M7.same).seq hp3, M7.lstR hav3 0 1 rfl rfl⟩
theorem use_Summing_add {H H0 : Hp} {ls : List (Addr × HO)} {Q : VK} {E : XK} {x a : Addr} {kind : Nat} {b d : List Nat} {o : HO} (L : Loc H0 H ls) (j : Nat) (hj : ls[j]? = some (x, o)) {av : Addr → Prop} (hav : ∀ b, av b → H b ≠ none) (hS : SumAt K ad.Summing (res H av) x kind b o) (ha : SqL K (er H x) a (nv d)) (hk : kind = 1 ∨ kind = 2) (hb : Bytes b) (hd : Bytes d) (hl : d.length < 6000)
    (q : ∀ H' o' ms, Loc H0 H' (ls.set j (x, o') ++ ms) → Loc (er H x) H' ((x, o') :: ms) → SumAt K ad.Summing (res H' av) x kind (b ++ d) o' → Q .non H') : sp_Summing_add K ad (.ref x :: ([.ref a] ++ [])) H Q E :=
  ⟨av, x, a, kind, b, d, o, hav, rfl, L.get j hj, hS, ha, hk, hb, hd, hl, fun H' o' ms M hS' => q H' o' ms (L.meth j hj M) M hS'⟩
/-! told -/
def sp_Summing_told (K : PySem.W.Frag) (ad : Adr) : Sp := fun vs H Q _ => ∃ (x : Addr) (kind : Nat) (b : List Nat) (o : HO), vs = [.ref x] ∧ H x = some o ∧ SumAt K ad.Summing H x kind b o ∧ (kind = 1 ∨ kind = 2) ∧ Bytes b ∧ b.length < 1000000 ∧ ∀ p H', Loc H H' [(p, .lst (nv (Sy22.sum kind b)))] → Q (.ref p) H'
abbrev s_Summing_told : Stmt := inClass (top 31) 2
theorem sc_Summing_told : FnScope ["self", "gap", "ending", "told", "word"] ["self"] (defScope s_Summing_told) := ⟨rfl, rfl, rfl, by decide +kernel, rfl, by decide +kernel, by decide +kernel⟩
theorem ok_Summing_told {f : Addr} {fd : FuncData} (F : Fun K "told" "Summing.told" s_Summing_told f fd) (T : Txt K mg ad) (C_bytes_of : Callee P w K mg base 1 "bytes_of" ["number", "count"] (sp_bytes_of K)) (C_add_blocks : Callee P w K mg base 5 "add_blocks" ["kind", "state", "data"] (sp_add_blocks K)) : FnOk P w K mg base CX0 6 f fd ["self"] (sp_Summing_told K ad) := by
  refine F.ok sc_Summing_told (fun vs H Q E h => ?_) (fun cdv A outer s H vs Q E hr h => ?_)
  · obtain ⟨x, kind, b, o, rfl, _⟩ := h; rfl
  obtain ⟨x, kind, b, o, rfl, hx, ⟨dx, s, t, rfl, hs, ht⟩, hk, hb, hl, k⟩ := h
  refine ⟨_, (pss_cons (ps_set (i := 1) sc_Summing_told.nd rfl (Or.inl rfl) (pe_op (op_catK (K := K) rfl) (pe_lst (pa_cons pe_int pa_nil)) (pe_op op_rep (pe_lst (pa_cons pe_int pa_nil)) (pe_op op_mod (pe_un un_neg (pe_op op_add (pe_fld (pv 0) rfl) pe_int)) (pe_glob (v := .int 64) rfl T.g_BLOCK.choose_spec ⟨_, rfl⟩)))))
      (pss_cons (ps_set (i := 2) sc_Summing_told.nd rfl (Or.inl rfl) (pe_op (op_catK (K := K) rfl) (pe_op (op_catK (K := K) rfl) (pe_fld (pv 0) rfl) (pv 1)) (pe_fn C_bytes_of (hr.mono (by decide)) rfl (pa_cons (pe_op op_mul pe_int (pe_fld (pv 0) rfl)) (pa_cons pe_int pa_nil)))))
      (pss_cons (ps_set (i := 3) sc_Summing_told.nd rfl (Or.inl rfl) (pe_lst pa_nil))
      (pss_cons (ps_for PassesOwn.never rfl (pi_list (pe_fn C_add_blocks (hr.mono (by decide)) rfl (pa_cons (pe_fld (pv 0) rfl) (pa_cons (pe_fld (pv 0) rfl) (pa_cons (pv 2) pa_nil))))) (pg_name (i := 4) sc_Summing_told.nd rfl (Or.inl rfl)) (pss_one (ps_expr (pe_bm PySem.F.plainAttrs_list PySem.F.slot_list_extend PySem.F.type_list_extend mt_extend (pv 3) (pa_cons (pe_fn C_bytes_of (hr.mono (by decide)) rfl (pa_cons (pv 4) (pa_cons pe_int pa_nil))) pa_nil)))))
      (pss_one (ps_ret (pv 3))))))), ?_⟩
  have cC := T.c_Summing
  have n_kind := T.n_Summing_kind
  have n_state := T.n_Summing_state
  have n_waiting := T.n_Summing_waiting
  have n_summed_length := T.n_Summing_summed_length
  have L0 := Loc.start H
  have hs := (same_unEr x).seq hs
  have ht := (same_unEr x).seq ht
  have wl := wtOf_len b
  obtain ⟨cl1, cl2⟩ := closed_len b
  rw [← told_eq hk b] at k
  walk_at "init"
  apply r_new L0 (by show 1 ≤ sizeLine; decide)
  intro p1 H1 L1
  walk_at "go"
  apply r_new L1 (by show 1 ≤ sizeLine; decide)
  intro p2 H2 L2
  have hx2 := L2.same _ _ hx
  walk_at "go"
  refine r_i2c (by decide) ?_
  have ez : (-((b.length + 9 : Nat) : Int)) % ((64 : Nat) : Int) = (((119 - b.length % 64) % 64 : Nat) : Int) := by omega
  rw [ez]
  refine r_rep (x := 0) L2 1 rfl (by rw [sizeLine_eq]; omega) fun p3 H3 L3 => ?_
  walk_at "go"
  refine r_cat2 (xs := [128]) L3 (L3.lst 0 rfl) (L3.lst 2 rfl) (by rw [List.length_replicate, sizeLine_eq, List.length_singleton]; omega) fun p4 H4 L4 => ?_
  have hx4 := L4.same _ _ hx
  have lz : ([128] ++ List.replicate ((119 - b.length % 64) % 64) 0).length ≤ 64 := by rw [List.length_append, List.length_replicate, List.length_singleton]; omega
  walk_at "go"
  refine r_cat2 L4 (L4.arg ht) (L4.lst 3 rfl) (by rw [sizeLine_eq]; omega) fun p5 H5 L5 => ?_
  have hx5 := L5.same _ _ hx
  walk_at "go"
  refine use_bytes_of L5 (by omega) fun p6 H6 L6 => ?_
  walk_at "go"
  have bl8 := big_len 8 (8 * b.length)
  refine r_cat2 L6 (L6.lst 4 rfl) (L6.lst 5 rfl) (by rw [bl8, List.length_append, sizeLine_eq]; omega) fun p7 H7 L7 => ?_
  walk_at "go"
  apply r_new L7 (by decide)
  intro p8 H8 L8
  have hx8 := L8.same _ _ hx
  walk_at "go"
  have be : Bytes (wtOf b ++ ([128] ++ Sy22.zeros ((119 - b.length % 64) % 64)) ++ Sy22.big 8 (8 * b.length)) := by
    refine ((wtOf_bytes hb).app (Bytes.app (fun y hy => ?_) fun y hy => ?_)).app (big_bytes _ _)
    · rw [List.mem_singleton] at hy; omega
    · unfold Sy22.zeros at hy; rw [List.mem_replicate] at hy; omega
  refine use_add_blocks L8 (L8.arg hs) (L8.lst 6 rfl) hk (stOf_st hk b) be cl1 (by show List.length (wtOf b ++ ([128] ++ Sy22.zeros ((119 - b.length % 64) % 64)) ++ Sy22.big 8 (8 * b.length)) < 6400; omega) fun p9 H9 L9 sm9 hp9 h9 => ?_
  have L9 := L9.pick 7 rfl
  have hst : St kind (fold kind (stOf kind b) (wtOf b ++ ([128] ++ Sy22.zeros ((119 - b.length % 64) % 64)) ++ Sy22.big 8 (8 * b.length))) := fold_st hk (stOf_st hk b) _
  have h9 : SqL K H9 p9 (nv (fold kind (stOf kind b) (wtOf b ++ ([128] ++ Sy22.zeros ((119 - b.length % 64) % 64)) ++ Sy22.big 8 (8 * b.length)))) := h9
  have h9' : SqL K (er H9 p8) p9 (nv (fold kind (stOf kind b) (wtOf b ++ ([128] ++ Sy22.zeros ((119 - b.length % 64) % 64)) ++ Sy22.big 8 (8 * b.length)))) := by
    by_cases e : p9 = p8
    · rcases h9 with (h | ⟨u, h⟩) | h
      · rw [e, L9.get 0 rfl] at h
        have h := congrArg List.length (HO.lst.inj (Option.some.inj h))
        rw [nv_len, hst.len] at h
        rcases hk with rfl | rfl <;> cases h
      · rw [e, L9.get 0 rfl] at h; cases h
      · exact .inr h
    · exact er_keep h9 e
  generalize fold kind (stOf kind b) (wtOf b ++ ([128] ++ Sy22.zeros ((119 - b.length % 64) % 64)) ++ Sy22.big 8 (8 * b.length)) = F at *
  have fl := hst.len
  have sz : size kind ≤ 8 := by rcases hk with rfl | rfl <;> decide
  have M9 := Loc.self (L9.get 0 rfl)
  walk_at "go"
  refine f_list (xs := nv F) (fun i σ H' => ∃ (v4 : Option V), σ = [some (.ref x), some (.ref p4), some (.ref p7), some (.ref p8), v4] ∧ Loc (er H9 p8) H' [(p8, .lst (nv ((F.take i).flatMap (Sy22.big 4))))]) ⟨_, rfl, M9⟩ (fun i σ H' _ ⟨_, _, L⟩ => L.arg h9') ?_ ?_
  · rintro i y σ H' hy ⟨v4, rfl, M⟩
    obtain ⟨hi, rfl⟩ := nv_of_get hy
    have ml : ((F.take i).flatMap (Sy22.big 4)).length ≤ 4 * i := by
      have : ∀ l : List Nat, (l.flatMap (Sy22.big 4)).length = 4 * l.length := by
        intro l
        induction l with
        | nil => rfl
        | cons a l ih => rw [List.flatMap_cons, List.length_append, big_len, ih, List.length_cons]; omega
      rw [this, List.length_take]; omega
    walk_at "go"
    refine use_bytes_of M (by omega) fun p10 H10 M10 => ?_
    walk_at "go"
    refine r_extend M10 0 rfl (M10.get 1 rfl) (by rw [nv_len, nv_len, big_len, sizeLine_eq]; omega) fun H11 M11 => ?_
    walk_at "go"
    refine ⟨_, rfl, ?_⟩
    rw [take_snocD hi, List.flatMap_append, List.flatMap_cons, List.flatMap_nil, List.append_nil, nv_app]
    exact M11.take 1
  · rintro σ H' ⟨v4, rfl, M⟩
    rw [nv_len, List.take_length] at M
    walk_at "go"
    exact k p8 H' (L9.meth 0 rfl M)
theorem use_Summing_told {H H0 : Hp} {ls : List (Addr × HO)} {Q : VK} {E : XK} {x : Addr} {kind : Nat} {b : List Nat} {o : HO} (L : Loc H0 H ls) (j : Nat) (hj : ls[j]? = some (x, o)) (hS : SumAt K ad.Summing H x kind b o) (hk : kind = 1 ∨ kind = 2) (hb : Bytes b) (hl : b.length < 1000000)
    (q : ∀ p H', Loc H0 H' (ls ++ [(p, .lst (nv (Sy22.sum kind b)))]) → Q (.ref p) H') : sp_Summing_told K ad (.ref x :: ([] ++ [])) H Q E :=
  ⟨x, kind, b, o, rfl, L.get j hj, hS, hk, hb, hl, fun p H' M => q p H' (L.calls M)⟩
end
end
section
def fs_Sealing (v0 v1 v2 v3 v4 v5 v6 v7 v8 v9 : V) : List (Str × V) := [("round_keys", v0), ("factor", v1), ("nonce", v2), ("opening", v3), ("stream", v4), ("beside_length", v5), ("text_length", v6), ("text_begun", v7), ("tagged", v8), ("waiting", v9)]
theorem get_Sealing_round_keys {v0 v1 v2 v3 v4 v5 v6 v7 v8 v9 : V} : (fs_Sealing v0 v1 v2 v3 v4 v5 v6 v7 v8 v9).lookup ("round_keys" : Str) = some v0 := by rfl
theorem put_Sealing_round_keys {v0 v1 v2 v3 v4 v5 v6 v7 v8 v9 y : V} : putF "round_keys" y (fs_Sealing v0 v1 v2 v3 v4 v5 v6 v7 v8 v9) = fs_Sealing y v1 v2 v3 v4 v5 v6 v7 v8 v9 := by rfl
theorem get_Sealing_factor {v0 v1 v2 v3 v4 v5 v6 v7 v8 v9 : V} : (fs_Sealing v0 v1 v2 v3 v4 v5 v6 v7 v8 v9).lookup ("factor" : Str) = some v1 := by rfl
theorem put_Sealing_factor {v0 v1 v2 v3 v4 v5 v6 v7 v8 v9 y : V} : putF "factor" y (fs_Sealing v0 v1 v2 v3 v4 v5 v6 v7 v8 v9) = fs_Sealing v0 y v2 v3 v4 v5 v6 v7 v8 v9 := by rfl
theorem get_Sealing_nonce {v0 v1 v2 v3 v4 v5 v6 v7 v8 v9 : V} : (fs_Sealing v0 v1 v2 v3 v4 v5 v6 v7 v8 v9).lookup ("nonce" : Str) = some v2 := by rfl
theorem put_Sealing_nonce {v0 v1 v2 v3 v4 v5 v6 v7 v8 v9 y : V} : putF "nonce" y (fs_Sealing v0 v1 v2 v3 v4 v5 v6 v7 v8 v9) = fs_Sealing v0 v1 y v3 v4 v5 v6 v7 v8 v9 := by rfl
theorem get_Sealing_opening {v0 v1 v2 v3 v4 v5 v6 v7 v8 v9 : V} : (fs_Sealing v0 v1 v2 v3 v4 v5 v6 v7 v8 v9).lookup ("opening" : Str) = some v3 := by rfl
theorem put_Sealing_opening {v0 v1 v2 v3 v4 v5 v6 v7 v8 v9 y : V} : putF "opening" y (fs_Sealing v0 v1 v2 v3 v4 v5 v6 v7 v8 v9) = fs_Sealing v0 v1 v2 y v4 v5 v6 v7 v8 v9 := by rfl
theorem get_Sealing_stream {v0 v1 v2 v3 v4 v5 v6 v7 v8 v9 : V} : (fs_Sealing v0 v1 v2 v3 v4 v5 v6 v7 v8 v9).lookup ("stream" : Str) = some v4 := by rfl
theorem put_Sealing_stream {v0 v1 v2 v3 v4 v5 v6 v7 v8 v9 y : V} : putF "stream" y (fs_Sealing v0 v1 v2 v3 v4 v5 v6 v7 v8 v9) = fs_Sealing v0 v1 v2 v3 y v5 v6 v7 v8 v9 := by rfl
theorem get_Sealing_beside_length {v0 v1 v2 v3 v4 v5 v6 v7 v8 v9 : V} : (fs_Sealing v0 v1 v2 v3 v4 v5 v6 v7 v8 v9).lookup ("beside_length" : Str) = some v5 := by rfl
theorem put_Sealing_beside_length {v0 v1 v2 v3 v4 v5 v6 v7 v8 v9 y : V} : putF "beside_length" y (fs_Sealing v0 v1 v2 v3 v4 v5 v6 v7 v8 v9) = fs_Sealing v0 v1 v2 v3 v4 y v6 v7 v8 v9 := by rfl
theorem get_Sealing_text_length {v0 v1 v2 v3 v4 v5 v6 v7 v8 v9 : V} : (fs_Sealing v0 v1 v2 v3 v4 v5 v6 v7 v8 v9).lookup ("text_length" : Str) = some v6 := by rfl
theorem put_Sealing_text_length {v0 v1 v2 v3 v4 v5 v6 v7 v8 v9 y : V} : putF "text_length" y (fs_Sealing v0 v1 v2 v3 v4 v5 v6 v7 v8 v9) = fs_Sealing v0 v1 v2 v3 v4 v5 y v7 v8 v9 := by rfl
theorem get_Sealing_text_begun {v0 v1 v2 v3 v4 v5 v6 v7 v8 v9 : V} : (fs_Sealing v0 v1 v2 v3 v4 v5 v6 v7 v8 v9).lookup ("text_begun" : Str) = some v7 := by rfl
theorem put_Sealing_text_begun {v0 v1 v2 v3 v4 v5 v6 v7 v8 v9 y : V} : putF "text_begun" y (fs_Sealing v0 v1 v2 v3 v4 v5 v6 v7 v8 v9) = fs_Sealing v0 v1 v2 v3 v4 v5 v6 y v8 v9 := by rfl
theorem get_Sealing_tagged {v0 v1 v2 v3 v4 v5 v6 v7 v8 v9 : V} : (fs_Sealing v0 v1 v2 v3 v4 v5 v6 v7 v8 v9).lookup ("tagged" : Str) = some v8 := by rfl
theorem put_Sealing_tagged {v0 v1 v2 v3 v4 v5 v6 v7 v8 v9 y : V} : putF "tagged" y (fs_Sealing v0 v1 v2 v3 v4 v5 v6 v7 v8 v9) = fs_Sealing v0 v1 v2 v3 v4 v5 v6 v7 y v9 := by rfl
theorem get_Sealing_waiting {v0 v1 v2 v3 v4 v5 v6 v7 v8 v9 : V} : (fs_Sealing v0 v1 v2 v3 v4 v5 v6 v7 v8 v9).lookup ("waiting" : Str) = some v9 := by rfl
theorem put_Sealing_waiting {v0 v1 v2 v3 v4 v5 v6 v7 v8 v9 y : V} : putF "waiting" y (fs_Sealing v0 v1 v2 v3 v4 v5 v6 v7 v8 v9) = fs_Sealing v0 v1 v2 v3 v4 v5 v6 v7 v8 y := by rfl
theorem no_Sealing_enciphered_count {v0 v1 v2 v3 v4 v5 v6 v7 v8 v9 : V} : (fs_Sealing v0 v1 v2 v3 v4 v5 v6 v7 v8 v9).lookup ("enciphered_count" : Str) = none := by rfl
theorem no_Sealing_hold {v0 v1 v2 v3 v4 v5 v6 v7 v8 v9 : V} : (fs_Sealing v0 v1 v2 v3 v4 v5 v6 v7 v8 v9).lookup ("hold" : Str) = none := by rfl
theorem no_Sealing_fill_block {v0 v1 v2 v3 v4 v5 v6 v7 v8 v9 : V} : (fs_Sealing v0 v1 v2 v3 v4 v5 v6 v7 v8 v9).lookup ("fill_block" : Str) = none := by rfl
theorem no_Sealing_take_beside {v0 v1 v2 v3 v4 v5 v6 v7 v8 v9 : V} : (fs_Sealing v0 v1 v2 v3 v4 v5 v6 v7 v8 v9).lookup ("take_beside" : Str) = none := by rfl
theorem no_Sealing_run_stream {v0 v1 v2 v3 v4 v5 v6 v7 v8 v9 : V} : (fs_Sealing v0 v1 v2 v3 v4 v5 v6 v7 v8 v9).lookup ("run_stream" : Str) = none := by rfl
theorem no_Sealing_take_text {v0 v1 v2 v3 v4 v5 v6 v7 v8 v9 : V} : (fs_Sealing v0 v1 v2 v3 v4 v5 v6 v7 v8 v9).lookup ("take_text" : Str) = none := by rfl
theorem no_Sealing_tag {v0 v1 v2 v3 v4 v5 v6 v7 v8 v9 : V} : (fs_Sealing v0 v1 v2 v3 v4 v5 v6 v7 v8 v9).lookup ("tag" : Str) = none := by rfl

local macro_rules | `(tactic| walk_at "lk") => `(tactic| first | exact get_Sealing_round_keys | exact get_Sealing_factor | exact get_Sealing_nonce | exact get_Sealing_opening | exact get_Sealing_stream | exact get_Sealing_beside_length | exact get_Sealing_text_length | exact get_Sealing_text_begun | exact get_Sealing_tagged | exact get_Sealing_waiting | exact no_Sealing_enciphered_count | exact no_Sealing_hold | exact no_Sealing_fill_block | exact no_Sealing_take_beside | exact no_Sealing_run_stream | exact no_Sealing_take_text | exact no_Sealing_tag | rfl)
local macro_rules | `(tactic| walk_at "put") => `(tactic| ((walk_at "go"); (walk_at "fp"); (intro H' L'); (simp only [put_Sealing_round_keys, put_Sealing_factor, put_Sealing_nonce, put_Sealing_opening, put_Sealing_stream, put_Sealing_beside_length, put_Sealing_text_length, put_Sealing_text_begun, put_Sealing_tagged, put_Sealing_waiting, List.set_cons_zero, List.set_cons_succ] at L'); (try walk_at "go")))
section
variable {P : Program} {w : World} {K : PySem.W.Frag} {mg : Str → Option Value} {base : Heap} {ad : Adr}
/-! multiply -/
def sp_multiply (K : PySem.W.Frag) : Sp := fun vs H Q _ => ∃ (x y : Nat), vs = [.int (x : Int), .int (y : Int)] ∧ Q (.int ((Sy22.times x y : Nat) : Int)) H
abbrev s_multiply : Stmt := top 35
theorem sc_multiply : FnScope ["block", "factor", "product", "place"] ["block", "factor"] (defScope s_multiply) := ⟨rfl, rfl, rfl, by decide +kernel, rfl, by decide +kernel, by decide +kernel⟩
theorem ok_multiply {f : Addr} {fd : FuncData} (F : Fun K "multiply" "multiply" s_multiply f fd) (T : Txt K mg ad)  : FnOk P w K mg base CX0 1 f fd ["block", "factor"] (sp_multiply K) := by
  refine F.ok sc_multiply (fun vs H Q E h => ?_) (fun cdv A outer s H vs Q E hr h => ?_)
  · obtain ⟨x, y, rfl, _⟩ := h; rfl
  obtain ⟨x, y, rfl, q⟩ := h
  refine ⟨_, (pss_cons (ps_set (i := 2) sc_multiply.nd rfl (Or.inl rfl) pe_int)
      (pss_cons (ps_for PassesOwn.never rfl (pi_range3 rfl T.n_range (pa_cons pe_int (pa_cons (pe_un un_neg pe_int) (pa_cons (pe_un un_neg pe_int) pa_nil)))) (pg_name (i := 3) sc_multiply.nd rfl (Or.inl rfl)) (pss_cons (ps_mid (ps_if (pt_truthK (K := K) rfl (pe_op op_and (pe_op op_shr (pv 0) (pv 3)) pe_int) (fun _ => rfl)) (pss_one (ps_set (i := 2) sc_multiply.nd rfl (Or.inl rfl) (pe_op op_xor (pv 2) (pv 1)))) pss_nil))
      (pss_one (ps_set (i := 1) sc_multiply.nd rfl (Or.inl rfl) (pe_mid (pe_ifExp (pt_truthK (K := K) rfl (pe_op op_and (pv 1) pe_int) (fun _ => rfl)) (pe_op op_xor (pe_op op_shr (pv 1) pe_int) (pe_glob (v := .int 299076299051606071403356588563077529600) rfl T.g_OVERFLOW.choose_spec ⟨_, rfl⟩)) (pe_op op_shr (pv 1) pe_int)))))))
      (pss_one (ps_ret (pv 2))))), ?_⟩
  walk_at "init"
  refine ⟨_, _, _, 128, rfl, ⟨by decide, by decide, by decide, by decide⟩, ?_⟩
  refine f_rangeC (fun i σ H' => ∃ (pr f : Nat) (v3 : Option V), σ = [some (.int (x : Int)), some (.int (f : Int)), some (.int (pr : Int)), v3] ∧ H' = H ∧ pr ^^^ Sy22.tagged (128 - i) x f = Sy22.times x y) ⟨0, y, _, rfl, rfl, by rw [Nat.zero_xor]; rfl⟩ ?_ ?_
  · rintro i σ H2 hi ⟨pr, f, v3, rfl, rfl, e⟩
    rw [show ((127 : Nat) : Int) + (i : Int) * (-((1 : Nat) : Int)) = ((127 - i : Nat) : Int) by omega]
    rw [show 128 - i = (127 - i) + 1 by omega, tagged_succ] at e
    walk_at "go"
    refine ⟨fun σ' H' => ∃ pr' : Nat, σ' = [some (.int (x : Int)), some (.int (f : Int)), some (.int (pr' : Int)), some (.int ((127 - i : Nat) : Int))] ∧ H' = H2 ∧ pr' ^^^ Sy22.tagged (127 - i) x (nxt f) = Sy22.times x y, ?_, ?_⟩
    · walk_at "go"
      refine r_ifn (fun hc => ?_) (fun hc => ?_)
      · rw [bit_is] at hc
        rw [if_pos (Classical.not_not.mp hc), ← Nat.xor_assoc] at e
        walk_at "go"
        exact ⟨_, rfl, rfl, e⟩
      · rw [bit_is] at hc
        rw [if_neg hc, Nat.zero_xor] at e
        walk_at "go"
        exact ⟨_, rfl, rfl, e⟩
    · rintro σ' H' ⟨pr', rfl, rfl, e⟩
      walk_at "go"
      refine r_midE (fun v H'' => v = .int ((nxt f : Nat) : Int) ∧ H'' = H') ?_ ?_
      · unfold nxt
        walk_at "go"
        refine r_ifn (fun hc => ?_) (fun hc => ?_)
        · rw [and1] at hc
          rw [if_pos (Classical.not_not.mp hc)]
          walk_at "go"
          rw [carried_eq]
          exact ⟨rfl, rfl⟩
        · rw [and1] at hc
          rw [if_neg hc]
          walk_at "go"
          exact ⟨rfl, rfl⟩
      · rintro v H'' ⟨rfl, rfl⟩
        walk_at "go"
        exact ⟨pr', nxt f, _, rfl, rfl, by rw [show 128 - (i + 1) = 127 - i by omega]; exact e⟩
  · rintro σ H2 ⟨pr, f, v3, rfl, rfl, e⟩
    have e : pr ^^^ 0 = Sy22.times x y := e
    rw [Nat.xor_zero] at e
    subst e
    walk_at "go"
    exact q
theorem use_multiply {H : Hp} {Q : VK} {E : XK} {x y : Nat} (q : Q (.int ((Sy22.times x y : Nat) : Int)) H) : sp_multiply K ([.int (x : Int), .int (y : Int)] ++ []) H Q E := ⟨x, y, rfl, q⟩
/-! the state of a sealing -/
structure SS where
  key : List Nat
  nonce : List Nat
  op : Bool
  stream : List Nat
  bl : Nat
  tl : Nat
  begun : Bool
  z : List Nat
def SS.fac (s : SS) : Nat := Sy22.bigOf (Sy22.block s.key (Sy22.zeros 16))
structure SS.Ok (s : SS) : Prop where
  key : KeyOk s.key
  nlen : s.nonce.length = 12
  nb : Bytes s.nonce
  zb : Bytes s.z
  str : s.tl % 16 ≠ 0 → s.stream = Sy22.block s.key (Sy22.counter s.nonce (s.tl / 16 + 2))
def SealAt (K : PySem.W.Frag) (C : Addr) (H : Hp) (x : Addr) (s : SS) (o : HO) : Prop :=
  ∃ dx a b c d, o = .ins C dx (fs_Sealing (.ref a) (.int (s.fac : Int)) (.ref b) (.bl s.op) (.ref c) (.int (s.bl : Int)) (.int (s.tl : Int)) (.bl s.begun) (.int ((tgOf s.fac s.z : Nat) : Int)) (.ref d)) ∧
    SqL K (er H x) a (nv (rks s.key)) ∧ SqL K (er H x) b (nv s.nonce) ∧ SqL K (er H x) c (nv s.stream) ∧ SqL K (er H x) d (nv (wzOf s.z))
theorem SealAt.mono {C : Addr} {H H' : Hp} {x : Addr} {s : SS} {o : HO} (h : SealAt K C H x s o) (e : Same (er H x) (er H' x)) : SealAt K C H' x s o := by
  obtain ⟨dx, a, b, c, d, rfl, h1, h2, h3, h4⟩ := h
  exact ⟨dx, a, b, c, d, rfl, e.seq h1, e.seq h2, e.seq h3, e.seq h4⟩
theorem SealAt.up {C : Addr} {H : Hp} {x : Addr} {s : SS} {o : HO} {av : Addr → Prop} (h : SealAt K C (res H av) x s o) : SealAt K C H x s o := h.mono (same_er res_up x)
theorem zero_blk : Blk (Sy22.zeros 16) := ⟨by decide, by unfold Bytes; decide⟩
theorem counter_eq (nonce : List Nat) (n : Nat) : Sy22.counter nonce n = nonce ++ Sy22.big 4 n := by unfold Sy22.counter; rw [big_mod]
theorem counter_blk {nonce : List Nat} (h : nonce.length = 12) (hb : Bytes nonce) (n : Nat) : Blk (Sy22.counter nonce n) := by
  rw [counter_eq]
  exact ⟨by rw [List.length_append, big_len, h], hb.app (big_bytes _ _)⟩
/-! __init__ -/
def sp_Sealing_init (K : PySem.W.Frag) (ad : Adr) : Sp := fun vs H Q _ => ∃ (av : Addr → Prop) (x dx a b : Addr) (key nonce : List Nat) (op : Bool), (∀ b, av b → H b ≠ none) ∧ vs = [.ref x, .ref a, .ref b, .bl op] ∧ H x = some (.ins ad.Sealing dx []) ∧ SqL K (er H x) a (nv key) ∧ SqL K (er H x) b (nv nonce) ∧ KeyOk key ∧ nonce.length = 12 ∧ Bytes nonce ∧ ∀ H' o ms, Loc (er H x) H' ((x, o) :: ms) → SealAt K ad.Sealing (res H' av) x ⟨key, nonce, op, [], 0, 0, false, []⟩ o → Q .non H'
abbrev s_Sealing_init : Stmt := inClass (top 36) 0
theorem sc_Sealing_init : FnScope ["self", "key", "nonce", "opening"] ["self", "key", "nonce", "opening"] (defScope s_Sealing_init) := ⟨rfl, rfl, rfl, by decide +kernel, rfl, by decide +kernel, by decide +kernel⟩
theorem ok_Sealing_init {f : Addr} {fd : FuncData} (F : Fun K "__init__" "Sealing.__init__" s_Sealing_init f fd) (T : Txt K mg ad) (C_expand_key : Callee P w K mg base 2 "expand_key" ["key"] (sp_expand_key K)) (C_encipher : Callee P w K mg base 3 "encipher" ["block", "round_keys"] (sp_encipher K)) (C_number_of : Callee P w K mg base 1 "number_of" ["data"] (sp_number_of K)) : FnOk P w K mg base CX0 4 f fd ["self", "key", "nonce", "opening"] (sp_Sealing_init K ad) := by
  refine F.ok sc_Sealing_init (fun vs H Q E h => ?_) (fun cdv A outer s H vs Q E hr h => ?_)
  · obtain ⟨av, x, dx, a, b, key, nonce, op, _, rfl, _⟩ := h; rfl
  obtain ⟨av, x, dx, a, b, key, nonce, op, hav, rfl, hx, ha, hb, kok, nl, nb, k⟩ := h
  refine ⟨_, (pss_cons (ps_fld (pv 0) (pe_fn C_expand_key (hr.mono (by decide)) rfl (pa_cons (pv 1) pa_nil)) rfl)
      (pss_cons (ps_fld (pv 0) (pe_fn C_number_of (hr.mono (by decide)) rfl (pa_cons (pe_fn C_encipher (hr.mono (by decide)) rfl (pa_cons (pe_op op_rep (pe_lst (pa_cons pe_int pa_nil)) pe_int) (pa_cons (pe_fld (pv 0) rfl) pa_nil))) pa_nil)) rfl)
      (pss_cons (ps_fld (pv 0) (pe_callTy (c_listK (K := K) rfl) (by rfl) T.n_list b_list (pa_cons (pv 2) pa_nil)) rfl)
      (pss_cons (ps_fld (pv 0) (pv 3) rfl)
      (pss_cons (ps_fld (pv 0) (pe_lst pa_nil) rfl)
      (pss_cons (ps_fld (pv 0) pe_int rfl)
      (pss_cons (ps_fld (pv 0) pe_int rfl)
      (pss_cons (ps_fld (pv 0) pe_bl rfl)
      (pss_cons (ps_fld (pv 0) pe_int rfl)
      (pss_one (ps_fld (pv 0) (pe_lst pa_nil) rfl))))))))))), ?_⟩
  have cC := T.c_Sealing
  have n_round_keys := T.n_Sealing_round_keys
  have n_factor := T.n_Sealing_factor
  have n_nonce := T.n_Sealing_nonce
  have n_opening := T.n_Sealing_opening
  have n_stream := T.n_Sealing_stream
  have n_beside_length := T.n_Sealing_beside_length
  have n_text_length := T.n_Sealing_text_length
  have n_text_begun := T.n_Sealing_text_begun
  have n_tagged := T.n_Sealing_tagged
  have n_waiting := T.n_Sealing_waiting
  have L0 := Loc.self hx
  walk_at "init"
  refine use_expand_key L0 (L0.arg ha) kok fun p1 H1 L1 => ?_
  walk_at "go"
  walk_at "fp"
  intro H2 L2
  simp only [List.cons_append, List.nil_append, List.set_cons_zero] at L2
  walk_at "go"
  apply r_new L2 (by show 1 ≤ sizeLine; decide)
  intro p3 H3 L3
  walk_at "go"
  refine r_rep (x := 0) L3 2 rfl (by decide) fun p4 H4 L4 => ?_
  walk_at "go"
  refine use_encipher (s := Sy22.zeros 16) (key := key) L4 (L4.lst 3 rfl) (L4.lst 1 rfl) zero_blk kok fun p5 H5 L5 => ?_
  walk_at "go"
  have bb := block_blk kok zero_blk
  refine use_number_of (L5.lst 4 rfl) bb.bytes (by rw [bb.len]; decide) ?_
  walk_at "go"
  have L5 : Loc (er H x) H5 [(x, .ins ad.Sealing dx (putF "round_keys" (V.ref p1) [])), (p1, .lst (nv (rks key)))] := L5.take 2
  walk_at "fp"
  intro H6 L6
  simp only [List.cons_append, List.nil_append, List.set_cons_zero] at L6
  walk_at "go"
  refine r_listOf L6 (L6.arg hb) fun p7 H7 L7 => ?_
  walk_at "go"
  walk_at "fp"
  intro H8 L8
  simp only [List.cons_append, List.nil_append, List.set_cons_zero] at L8
  walk_at "go"
  walk_at "fp"
  intro H9 L9
  simp only [List.set_cons_zero] at L9
  walk_at "go"
  apply r_new L9 (by decide)
  intro p10 H10 L10
  walk_at "go"
  walk_at "fp"
  intro H11 L11
  simp only [List.cons_append, List.nil_append, List.set_cons_zero] at L11
  walk_at "go"
  walk_at "fp"
  intro H12 L12
  simp only [List.set_cons_zero] at L12
  walk_at "go"
  walk_at "fp"
  intro H13 L13
  simp only [List.set_cons_zero] at L13
  walk_at "go"
  walk_at "fp"
  intro H14 L14
  simp only [List.set_cons_zero] at L14
  walk_at "go"
  walk_at "fp"
  intro H15 L15
  simp only [List.set_cons_zero] at L15
  walk_at "go"
  apply r_new L15 (by decide)
  intro p16 H16 L16
  walk_at "go"
  walk_at "fp"
  intro H17 L17
  simp only [List.cons_append, List.nil_append, List.set_cons_zero] at L17
  walk_at "go"
  have hz : wzOf ([] : List Nat) = [] := by simp [wzOf]
  have ht : ∀ f, tgOf f [] = 0 := fun f => by simp [tgOf, hash, Sy22.pieces, w16]
  refine k H17 _ _ L17 ⟨dx, p1, p7, p10, p16, ?_, L17.lstR hav 0 1 rfl rfl, L17.lstR hav 0 2 rfl rfl, L17.lstR hav 0 3 rfl rfl, ?_⟩
  · show _ = HO.ins ad.Sealing dx (fs_Sealing _ _ _ _ _ _ _ _ (.int ((tgOf _ [] : Nat) : Int)) _)
    rw [ht]
    rfl
  · show SqL K (er (res H17 av) x) p16 (nv (wzOf []))
    rw [hz]
    exact L17.lstR hav 0 4 rfl rfl
/-! enciphered_count -/
def sp_Sealing_enciphered_count (K : PySem.W.Frag) (ad : Adr) : Sp := fun vs H Q _ => ∃ (x : Addr) (n : Nat) (s : SS) (o : HO), vs = [.ref x, .int (n : Int)] ∧ H x = some o ∧ SealAt K ad.Sealing H x s o ∧ s.Ok ∧ ∀ p H', Loc H H' [(p, .lst (nv (Sy22.block s.key (Sy22.counter s.nonce n))))] → Q (.ref p) H'
abbrev s_Sealing_enciphered_count : Stmt := inClass (top 36) 1
theorem sc_Sealing_enciphered_count : FnScope ["self", "count"] ["self", "count"] (defScope s_Sealing_enciphered_count) := ⟨rfl, rfl, rfl, by decide +kernel, rfl, by decide +kernel, by decide +kernel⟩
theorem ok_Sealing_enciphered_count {f : Addr} {fd : FuncData} (F : Fun K "enciphered_count" "Sealing.enciphered_count" s_Sealing_enciphered_count f fd) (T : Txt K mg ad) (C_encipher : Callee P w K mg base 3 "encipher" ["block", "round_keys"] (sp_encipher K)) (C_bytes_of : Callee P w K mg base 1 "bytes_of" ["number", "count"] (sp_bytes_of K)) : FnOk P w K mg base CX0 4 f fd ["self", "count"] (sp_Sealing_enciphered_count K ad) := by
  refine F.ok sc_Sealing_enciphered_count (fun vs H Q E h => ?_) (fun cdv A outer s H vs Q E hr h => ?_)
  · obtain ⟨x, n, s, o, rfl, _⟩ := h; rfl
  obtain ⟨x, n, s, o, rfl, hx, ⟨dx, a, b, c, d, rfl, h1, h2, h3, h4⟩, ok, k⟩ := h
  refine ⟨_, (pss_one (ps_ret (pe_fn C_encipher (hr.mono (by decide)) rfl (pa_cons (pe_op (op_catK (K := K) rfl) (pe_fld (pv 0) rfl) (pe_fn C_bytes_of (hr.mono (by decide)) rfl (pa_cons (pv 1) (pa_cons pe_int pa_nil)))) (pa_cons (pe_fld (pv 0) rfl) pa_nil))))), ?_⟩
  have cC := T.c_Sealing
  have n_round_keys := T.n_Sealing_round_keys
  have n_factor := T.n_Sealing_factor
  have n_nonce := T.n_Sealing_nonce
  have n_opening := T.n_Sealing_opening
  have n_stream := T.n_Sealing_stream
  have n_beside_length := T.n_Sealing_beside_length
  have n_text_length := T.n_Sealing_text_length
  have n_text_begun := T.n_Sealing_text_begun
  have n_tagged := T.n_Sealing_tagged
  have n_waiting := T.n_Sealing_waiting
  have L0 := Loc.start H
  have h1 := (same_unEr x).seq h1
  have h2 := (same_unEr x).seq h2
  have nl := ok.nlen
  walk_at "init"
  refine use_bytes_of L0 (.inl rfl) fun p1 H1 L1 => ?_
  walk_at "go"
  refine r_cat2 L1 (L1.arg h2) (L1.lst 0 rfl) (by rw [big_len, nl]; decide) fun p2 H2 L2 => ?_
  have hx2 := L2.same _ _ hx
  rw [← counter_eq] at L2
  walk_at "go"
  refine use_encipher (key := s.key) L2 (L2.lst 1 rfl) (L2.arg h1) (counter_blk nl ok.nb n) ok.key fun p3 H3 L3 => ?_
  exact k p3 H3 (L3.pick 2 rfl)
theorem use_enciphered_count {H H0 : Hp} {ls : List (Addr × HO)} {Q : VK} {E : XK} {x : Addr} {n : Nat} {s : SS} {o : HO} (L : Loc H0 H ls) (j : Nat) (hj : ls[j]? = some (x, o)) (hS : SealAt K ad.Sealing H x s o) (ok : s.Ok)
    (q : ∀ p H', Loc H H' [(p, .lst (nv (Sy22.block s.key (Sy22.counter s.nonce n))))] → Loc H0 H' (ls ++ [(p, .lst (nv (Sy22.block s.key (Sy22.counter s.nonce n))))]) → Q (.ref p) H') : sp_Sealing_enciphered_count K ad (.ref x :: ([.int (n : Int)] ++ [])) H Q E :=
  ⟨x, n, s, o, rfl, L.get j hj, hS, ok, fun p H' M => q p H' M (L.calls M)⟩
/-! hold -/
theorem rng16' (m : Fin 300) : RgC ((0 : Nat) : Int) ((16 * m.1 : Nat) : Int) ((16 : Nat) : Int) m.1 := by
  have : ∀ m : Fin 300, Builtin.Range.small ((0 : Nat) : Int) ((16 * m.1 : Nat) : Int) ((16 : Nat) : Int) = true ∧ Builtin.Range.rangeSize ((0 : Nat) : Int) ((16 * m.1 : Nat) : Int) ((16 : Nat) : Int) = m.1 := by decide +kernel
  exact ⟨by decide, by decide, (this m).1, (this m).2⟩
def sp_Sealing_hold (K : PySem.W.Frag) (ad : Adr) : Sp := fun vs H Q _ => ∃ (av : Addr → Prop) (x e : Addr) (s : SS) (d : List Nat) (o : HO), (∀ b, av b → H b ≠ none) ∧ vs = [.ref x, .ref e] ∧ H x = some o ∧ SealAt K ad.Sealing (res H av) x s o ∧ SqL K (er H x) e (nv d) ∧ Bytes s.z ∧ Bytes d ∧ d.length < 4700 ∧ ∀ H' o' ms, Loc (er H x) H' ((x, o') :: ms) → SealAt K ad.Sealing (res H' av) x { s with z := s.z ++ d } o' → Q .non H'
abbrev s_Sealing_hold : Stmt := inClass (top 36) 2
theorem sc_Sealing_hold : FnScope ["self", "data", "waiting", "whole", "at"] ["self", "data"] (defScope s_Sealing_hold) := ⟨rfl, rfl, rfl, by decide +kernel, rfl, by decide +kernel, by decide +kernel⟩
theorem ok_Sealing_hold {f : Addr} {fd : FuncData} (F : Fun K "hold" "Sealing.hold" s_Sealing_hold f fd) (T : Txt K mg ad) (C_number_of : Callee P w K mg base 1 "number_of" ["data"] (sp_number_of K)) (C_multiply : Callee P w K mg base 1 "multiply" ["block", "factor"] (sp_multiply K)) : FnOk P w K mg base CX0 2 f fd ["self", "data"] (sp_Sealing_hold K ad) := by
  refine F.ok sc_Sealing_hold (fun vs H Q E h => ?_) (fun cdv A outer s H vs Q E hr h => ?_)
  · obtain ⟨av, x, e, s, d, o, _, rfl, _⟩ := h; rfl
  obtain ⟨av, x, e, s, d, o, hav, rfl, hx, ⟨dx, a, b, c, t, rfl, r1, r2, r3, r4⟩, he, zb, db, dl, k⟩ := h
  have h4 := (same_er (H := res H av) (H' := H) res_up x).seq r4
  refine ⟨_, (pss_cons (ps_set (i := 2) sc_Sealing_hold.nd rfl (Or.inl rfl) (pe_op (op_catK (K := K) rfl) (pe_fld (pv 0) rfl) (pv 1)))
      (pss_cons (ps_set (i := 3) sc_Sealing_hold.nd rfl (Or.inl rfl) (pe_op op_sub (pe_callB (c_lenK (K := K) rfl) (by rfl) T.n_len b_len (pa_cons (pv 2) pa_nil)) (pe_op op_mod (pe_callB (c_lenK (K := K) rfl) (by rfl) T.n_len b_len (pa_cons (pv 2) pa_nil)) pe_int)))
      (pss_cons (ps_for PassesOwn.never rfl (pi_range3 rfl T.n_range (pa_cons pe_int (pa_cons (pv 3) (pa_cons pe_int pa_nil)))) (pg_name (i := 4) sc_Sealing_hold.nd rfl (Or.inl rfl)) (pss_one (ps_fld (pv 0) (pe_fn C_multiply (hr.mono (by decide)) rfl (pa_cons (pe_op op_xor (pe_fld (pv 0) rfl) (pe_fn C_number_of (hr.mono (by decide)) rfl (pa_cons (pe_slice (sl_listK (K := K) rfl) (pv 2) (po_some (pv 4)) (po_some (pe_op op_add (pv 4) pe_int))) pa_nil))) (pa_cons (pe_fld (pv 0) rfl) pa_nil))) rfl)))
      (pss_one (ps_fld (pv 0) (pe_slice (sl_listK (K := K) rfl) (pv 2) (po_some (pv 3)) po_none) rfl))))), ?_⟩
  have cC := T.c_Sealing
  have n_round_keys := T.n_Sealing_round_keys
  have n_factor := T.n_Sealing_factor
  have n_nonce := T.n_Sealing_nonce
  have n_opening := T.n_Sealing_opening
  have n_stream := T.n_Sealing_stream
  have n_beside_length := T.n_Sealing_beside_length
  have n_text_length := T.n_Sealing_text_length
  have n_text_begun := T.n_Sealing_text_begun
  have n_tagged := T.n_Sealing_tagged
  have n_waiting := T.n_Sealing_waiting
  have L0 := Loc.self hx
  have wl := wzOf_len s.z
  have lw : (wzOf s.z ++ d).length = (wzOf s.z).length + d.length := List.length_append
  have wb : Bytes (wzOf s.z ++ d) := Bytes.app (zb.drop _) db
  walk_at "init"
  refine r_cat2 L0 (L0.arg h4) (L0.arg he) (by rw [sizeLine_eq]; omega) fun p1 H1 L1 => ?_
  walk_at "go"
  have hx1 := L1.get 0 rfl
  have M1 := Loc.self hx1
  have hp1 : SqL K (er H1 x) p1 (nv (wzOf s.z ++ d)) := L1.lstE 0 1 rfl rfl
  obtain ⟨m, hm⟩ : ∃ m, (wzOf s.z ++ d).length - (wzOf s.z ++ d).length % 16 = 16 * m := ⟨(wzOf s.z ++ d).length / 16, by omega⟩
  have tg := tg_add s.fac s.z d
  have wz := wz_add s.z d
  have hRg := rng16' ⟨m, by omega⟩
  rw [hm] at tg wz ⊢
  refine ⟨_, _, _, m, rfl, hRg, f_rangeC (fun i σ H' => ∃ (v4 : Option V) (ms : List (Addr × HO)), σ = [some (.ref x), some (.ref e), some (.ref p1), some (.int ((16 * m : Nat) : Int)), v4] ∧ Loc (er H1 x) H' ((x, .ins ad.Sealing dx (fs_Sealing (.ref a) (.int (s.fac : Int)) (.ref b) (.bl s.op) (.ref c) (.int (s.bl : Int)) (.int (s.tl : Int)) (.bl s.begun) (.int ((hash s.fac (tgOf s.fac s.z) ((wzOf s.z ++ d).take (16 * i)) : Nat) : Int)) (.ref t))) :: ms)) ⟨_, [], rfl, by rw [hash_zero]; exact M1⟩ ?_ ?_⟩
  · rintro i σ H2 hi ⟨v4, ms, rfl, M2⟩
    rw [show ((0 : Nat) : Int) + (i : Int) * ((16 : Nat) : Int) = ((16 * i : Nat) : Int) by omega]
    rw [hash_snoc _ _ _ _ (by omega)]
    have hp2 := M2.arg hp1
    have hx2 := M2.get 0 rfl
    walk_at "go"
    apply r_slice M2 hp2
    intro p3 H3 M3
    rw [nv_cut2 (by omega) (by omega) (by omega), Int.toNat_natCast, Int.toNat_natCast] at M3
    have e5 : My.cut (wzOf s.z ++ d) (16 * i) (16 * i + 16) = Sy22.part (wzOf s.z ++ d) (16 * i) 16 := by unfold My.cut Sy22.part; rw [Nat.add_sub_cancel_left]
    rw [e5] at M3
    have hx3 := M3.get 0 rfl
    have hl3 : SqL K H3 p3 (nv (Sy22.part (wzOf s.z ++ d) (16 * i) 16)) := M3.lst (ms.length + 1) (by simp)
    walk_at "go"
    refine use_number_of hl3 (part_bytes wb _ _) (by rw [part_len (by omega)]; decide) ?_
    walk_at "go"
    refine use_multiply ?_
    walk_at "go"
    refine r_putF M3 0 rfl cC n_tagged (by walk_at "lt1000") fun H4 M4 => ?_
    simp only [put_Sealing_tagged, List.cons_append, List.set_cons_zero] at M4
    walk_at "go"
    exact ⟨_, _, rfl, M4⟩
  · rintro σ H2 ⟨v4, ms, rfl, M2⟩
    have hp2 := M2.arg hp1
    rw [tg] at M2
    walk_at "go"
    apply r_slice M2 hp2
    intro p3 H3 M3
    rw [nv_cutFrom (by omega) (by omega), Int.toNat_natCast, wz] at M3
    walk_at "go"
    refine r_putF M3 0 rfl cC n_waiting (by walk_at "lt1000") fun H4 M4 => ?_
    simp only [put_Sealing_waiting, List.cons_append, List.set_cons_zero] at M4
    walk_at "go"
    have sm : Same (er (res H av) x) (er (res H4 av) x) := (res_er L1.same).trans (res_er M4.same)
    refine k H4 _ _ (L1.meth 0 rfl M4) ⟨dx, a, b, c, p3, rfl, sm.seq r1, sm.seq r2, sm.seq r3, M4.lstR (avNext hav L1) 0 (ms.length + 1) rfl (by simp) (by omega)⟩
theorem use_hold {H H0 : Hp} {ls : List (Addr × HO)} {Q : VK} {E : XK} {x e : Addr} {s : SS} {d : List Nat} {o : HO} (L : Loc H0 H ls) (j : Nat) (hj : ls[j]? = some (x, o)) {av : Addr → Prop} (hav : ∀ b, av b → H b ≠ none) (hS : SealAt K ad.Sealing (res H av) x s o) (he : SqL K (er H x) e (nv d)) (zb : Bytes s.z) (db : Bytes d) (dl : d.length < 4700)
    (q : ∀ H' o' ms, Loc H0 H' (ls.set j (x, o') ++ ms) → Loc (er H x) H' ((x, o') :: ms) → SealAt K ad.Sealing (res H' av) x { s with z := s.z ++ d } o' → Q .non H') : sp_Sealing_hold K ad (.ref x :: ([.ref e] ++ [])) H Q E :=
  ⟨av, x, e, s, d, o, hav, rfl, L.get j hj, hS, he, zb, db, dl, fun H' o' ms M hS' => q H' o' ms (L.meth j hj M) M hS'⟩
end
end
section
local macro_rules | `(tactic| walk_at "lk") => `(tactic| first | exact get_Sealing_round_keys | exact get_Sealing_factor | exact get_Sealing_nonce | exact get_Sealing_opening | exact get_Sealing_stream | exact get_Sealing_beside_length | exact get_Sealing_text_length | exact get_Sealing_text_begun | exact get_Sealing_tagged | exact get_Sealing_waiting | exact no_Sealing_enciphered_count | exact no_Sealing_hold | exact no_Sealing_fill_block | exact no_Sealing_take_beside | exact no_Sealing_run_stream | exact no_Sealing_take_text | exact no_Sealing_tag | rfl)
local macro_rules | `(tactic| walk_at "put") => `(tactic| ((walk_at "go"); (walk_at "fp"); (intro H' L'); (simp only [put_Sealing_round_keys, put_Sealing_factor, put_Sealing_nonce, put_Sealing_opening, put_Sealing_stream, put_Sealing_beside_length, put_Sealing_text_length, put_Sealing_text_begun, put_Sealing_tagged, put_Sealing_waiting, List.set_cons_zero, List.set_cons_succ] at L'); (try walk_at "go")))
section
variable {P : Program} {w : World} {K : PySem.W.Frag} {mg : Str → Option Value} {base : Heap} {ad : Adr}
/-! fill_block -/
def sp_Sealing_fill_block (K : PySem.W.Frag) (ad : Adr) : Sp := fun vs H Q _ => ∃ (av : Addr → Prop) (x : Addr) (s : SS) (o : HO), (∀ b, av b → H b ≠ none) ∧ vs = [.ref x] ∧ H x = some o ∧ SealAt K ad.Sealing (res H av) x s o ∧ Bytes s.z ∧ ∀ H' o' ms, Loc (er H x) H' ((x, o') :: ms) → SealAt K ad.Sealing (res H' av) x { s with z := Sy22.filled s.z } o' → Q .non H'
abbrev s_Sealing_fill_block : Stmt := inClass (top 36) 3
theorem sc_Sealing_fill_block : FnScope ["self"] ["self"] (defScope s_Sealing_fill_block) := ⟨rfl, rfl, rfl, by decide +kernel, rfl, by decide +kernel, by decide +kernel⟩
theorem ok_Sealing_fill_block {f : Addr} {fd : FuncData} (F : Fun K "fill_block" "Sealing.fill_block" s_Sealing_fill_block f fd) (T : Txt K mg ad) (C_Sealing_hold : Method P w K mg base 2 ad.Sealing "hold" ["self", "data"] (sp_Sealing_hold K ad)) : FnOk P w K mg base CX0 3 f fd ["self"] (sp_Sealing_fill_block K ad) := by
  refine F.ok sc_Sealing_fill_block (fun vs H Q E h => ?_) (fun cdv A outer s H vs Q E hr h => ?_)
  · obtain ⟨av, x, s, o, _, rfl, _⟩ := h; rfl
  obtain ⟨av, x, s, o, hav, rfl, hx, hS, zb, k⟩ := h
  refine ⟨_, (pss_one (ps_expr (pe_me T.c_Sealing C_Sealing_hold (hr.mono (by decide)) (pv 0) (pa_cons (pe_op op_rep (pe_lst (pa_cons pe_int pa_nil)) (pe_op op_mod (pe_un un_neg (pe_callB (c_lenK (K := K) rfl) (by rfl) T.n_len b_len (pa_cons (pe_fld (pv 0) rfl) pa_nil))) pe_int)) pa_nil)))), ?_⟩
  have cC := T.c_Sealing
  have n_round_keys := T.n_Sealing_round_keys
  have n_factor := T.n_Sealing_factor
  have n_nonce := T.n_Sealing_nonce
  have n_opening := T.n_Sealing_opening
  have n_stream := T.n_Sealing_stream
  have n_beside_length := T.n_Sealing_beside_length
  have n_text_length := T.n_Sealing_text_length
  have n_text_begun := T.n_Sealing_text_begun
  have n_tagged := T.n_Sealing_tagged
  have n_waiting := T.n_Sealing_waiting
  obtain ⟨dx, a, b, c, d, rfl, h1, h2, h3, h4⟩ := hS.up
  have L0 := Loc.self hx
  have wl := wzOf_len s.z
  rw [filled_eq] at k
  walk_at "init"
  apply r_new L0 (by show 1 ≤ sizeLine; decide)
  intro p1 H1 L1
  have h41 := L1.arg h4
  walk_at "go"
  refine r_i2c (by decide) ?_
  have ez : (-(((wzOf s.z).length : Nat) : Int)) % ((16 : Nat) : Int) = (((16 - (wzOf s.z).length % 16) % 16 : Nat) : Int) := by omega
  rw [ez]
  refine r_rep (x := 0) L1 1 rfl (by rw [sizeLine_eq]; omega) fun p2 H2 L2 => ?_
  walk_at "go"
  have sm2 : Same (er (res H av) x) (er (res H2 av) x) := res_er L2.same
  refine use_hold L2 0 rfl (avNext hav L2) (hS.mono sm2) (L2.lstE 0 2 rfl rfl) zb (fun y hy => by rw [List.mem_replicate] at hy; omega) (by rw [List.length_replicate]; omega) fun H3 o3 ms L3 _ hS3 => ?_
  walk_at "go"
  exact k H3 o3 _ L3 hS3
theorem use_fill_block {H H0 : Hp} {ls : List (Addr × HO)} {Q : VK} {E : XK} {x : Addr} {s : SS} {o : HO} (L : Loc H0 H ls) (j : Nat) (hj : ls[j]? = some (x, o)) {av : Addr → Prop} (hav : ∀ b, av b → H b ≠ none) (hS : SealAt K ad.Sealing (res H av) x s o) (zb : Bytes s.z)
    (q : ∀ H' o' ms, Loc H0 H' (ls.set j (x, o') ++ ms) → Loc (er H x) H' ((x, o') :: ms) → SealAt K ad.Sealing (res H' av) x { s with z := Sy22.filled s.z } o' → Q .non H') : sp_Sealing_fill_block K ad (.ref x :: ([] ++ [])) H Q E :=
  ⟨av, x, s, o, hav, rfl, L.get j hj, hS, zb, fun H' o' ms M hS' => q H' o' ms (L.meth j hj M) M hS'⟩
/-! take_beside -/
def sp_Sealing_take_beside (K : PySem.W.Frag) (ad : Adr) : Sp := fun vs H Q _ => ∃ (av : Addr → Prop) (x e : Addr) (s : SS) (d : List Nat) (o : HO), (∀ b, av b → H b ≠ none) ∧ vs = [.ref x, .ref e] ∧ H x = some o ∧ SealAt K ad.Sealing (res H av) x s o ∧ SqL K (er H x) e (nv d) ∧ Bytes s.z ∧ Bytes d ∧ d.length < 4700 ∧ ∀ H' o' ms, Loc (er H x) H' ((x, o') :: ms) → SealAt K ad.Sealing (res H' av) x { s with bl := s.bl + d.length, z := s.z ++ d } o' → Q .non H'
abbrev s_Sealing_take_beside : Stmt := inClass (top 36) 4
theorem sc_Sealing_take_beside : FnScope ["self", "data"] ["self", "data"] (defScope s_Sealing_take_beside) := ⟨rfl, rfl, rfl, by decide +kernel, rfl, by decide +kernel, by decide +kernel⟩
theorem ok_Sealing_take_beside {f : Addr} {fd : FuncData} (F : Fun K "take_beside" "Sealing.take_beside" s_Sealing_take_beside f fd) (T : Txt K mg ad) (C_Sealing_hold : Method P w K mg base 2 ad.Sealing "hold" ["self", "data"] (sp_Sealing_hold K ad)) : FnOk P w K mg base CX0 3 f fd ["self", "data"] (sp_Sealing_take_beside K ad) := by
  refine F.ok sc_Sealing_take_beside (fun vs H Q E h => ?_) (fun cdv A outer s H vs Q E hr h => ?_)
  · obtain ⟨av, x, e, s, d, o, _, rfl, _⟩ := h; rfl
  obtain ⟨av, x, e, s, d, o, hav, rfl, hx, ⟨dx, a, b, c, t, rfl, h1, h2, h3, h4⟩, he, zb, db, dl, k⟩ := h
  refine ⟨_, (pss_cons (ps_fld (pv 0) (pe_op op_add (pe_fld (pv 0) rfl) (pe_callB (c_lenK (K := K) rfl) (by rfl) T.n_len b_len (pa_cons (pv 1) pa_nil))) rfl)
      (pss_one (ps_expr (pe_me T.c_Sealing C_Sealing_hold (hr.mono (by decide)) (pv 0) (pa_cons (pv 1) pa_nil))))), ?_⟩
  have cC := T.c_Sealing
  have n_round_keys := T.n_Sealing_round_keys
  have n_factor := T.n_Sealing_factor
  have n_nonce := T.n_Sealing_nonce
  have n_opening := T.n_Sealing_opening
  have n_stream := T.n_Sealing_stream
  have n_beside_length := T.n_Sealing_beside_length
  have n_text_length := T.n_Sealing_text_length
  have n_text_begun := T.n_Sealing_text_begun
  have n_tagged := T.n_Sealing_tagged
  have n_waiting := T.n_Sealing_waiting
  have L0 := Loc.self hx
  walk_at "init"
  refine r_putF L0 0 rfl cC n_beside_length (by walk_at "lt1000") fun H1 L1 => ?_
  simp only [put_Sealing_beside_length, List.set_cons_zero] at L1
  walk_at "go"
  have sm1 : Same (er (res H av) x) (er (res H1 av) x) := res_er L1.same
  have hS1 : SealAt K ad.Sealing (res H1 av) x { s with bl := s.bl + d.length } _ := ⟨dx, a, b, c, t, rfl, sm1.seq h1, sm1.seq h2, sm1.seq h3, sm1.seq h4⟩
  refine use_hold L1 0 rfl (avNext hav L1) hS1 ((same_er' L1.same).seq he) zb db dl fun H3 o3 ms L3 _ hS3 => ?_
  walk_at "go"
  exact k H3 o3 _ L3 hS3
theorem use_take_beside {H H0 : Hp} {ls : List (Addr × HO)} {Q : VK} {E : XK} {x e : Addr} {s : SS} {d : List Nat} {o : HO} (L : Loc H0 H ls) (j : Nat) (hj : ls[j]? = some (x, o)) {av : Addr → Prop} (hav : ∀ b, av b → H b ≠ none) (hS : SealAt K ad.Sealing (res H av) x s o) (he : SqL K (er H x) e (nv d)) (zb : Bytes s.z) (db : Bytes d) (dl : d.length < 4700)
    (q : ∀ H' o' ms, Loc H0 H' (ls.set j (x, o') ++ ms) → Loc (er H x) H' ((x, o') :: ms) → SealAt K ad.Sealing (res H' av) x { s with bl := s.bl + d.length, z := s.z ++ d } o' → Q .non H') : sp_Sealing_take_beside K ad (.ref x :: ([.ref e] ++ [])) H Q E :=
  ⟨av, x, e, s, d, o, hav, rfl, L.get j hj, hS, he, zb, db, dl, fun H' o' ms M hS' => q H' o' ms (L.meth j hj M) M hS'⟩
/-! run_stream -/
theorem runS_take (key nonce t : List Nat) (n : Nat) {i : Nat} (h : i < t.length) : (runS key nonce t n).take (i + 1) = (runS key nonce t n).take i ++ [t.getD i 0 ^^^ ks key nonce (n + i)] := by
  rw [take_snocD (by rw [runS_len]; exact h)]
  unfold runS
  rw [List.getD_eq_getElem?_getD, List.getElem?_map, List.getElem?_range h]
  rfl
def sp_Sealing_run_stream (K : PySem.W.Frag) (ad : Adr) : Sp := fun vs H Q _ => ∃ (av : Addr → Prop) (x e : Addr) (s : SS) (d : List Nat) (o : HO), (∀ b, av b → H b ≠ none) ∧ vs = [.ref x, .ref e] ∧ H x = some o ∧ SealAt K ad.Sealing (res H av) x s o ∧ SqL K (er H x) e (nv d) ∧ s.Ok ∧ d.length < 4700 ∧ ∀ H' o' p str ms, Loc (er H x) H' ((x, o') :: (p, .lst (nv (runS s.key s.nonce d s.tl))) :: ms) → SealAt K ad.Sealing (res H' av) x { s with stream := str, tl := s.tl + d.length } o' → ({ s with stream := str, tl := s.tl + d.length } : SS).Ok → Q (.ref p) H'
abbrev s_Sealing_run_stream : Stmt := inClass (top 36) 5
theorem sc_Sealing_run_stream : FnScope ["self", "data", "run", "byte", "place"] ["self", "data"] (defScope s_Sealing_run_stream) := ⟨rfl, rfl, rfl, by decide +kernel, rfl, by decide +kernel, by decide +kernel⟩
theorem ok_Sealing_run_stream {f : Addr} {fd : FuncData} (F : Fun K "run_stream" "Sealing.run_stream" s_Sealing_run_stream f fd) (T : Txt K mg ad) (C_Sealing_enciphered_count : Method P w K mg base 4 ad.Sealing "enciphered_count" ["self", "count"] (sp_Sealing_enciphered_count K ad)) : FnOk P w K mg base CX0 5 f fd ["self", "data"] (sp_Sealing_run_stream K ad) := by
  refine F.ok sc_Sealing_run_stream (fun vs H Q E h => ?_) (fun cdv A outer s H vs Q E hr h => ?_)
  · obtain ⟨av, x, e, s, d, o, _, rfl, _⟩ := h; rfl
  obtain ⟨av, x, e, s, d, o, hav, rfl, hx, ⟨dx, a, b, c, t, rfl, r1, r2, r3, r4⟩, he, ok, dl, k⟩ := h
  have up := same_er (H := res H av) (H' := H) res_up x
  have h1 := up.seq r1
  have h2 := up.seq r2
  have h4 := up.seq r4
  refine ⟨_, (pss_cons (ps_set (i := 2) sc_Sealing_run_stream.nd rfl (Or.inl rfl) (pe_lst pa_nil))
      (pss_cons (ps_for PassesOwn.never rfl (pi_list (pv 1)) (pg_name (i := 3) sc_Sealing_run_stream.nd rfl (Or.inl rfl)) (pss_cons (ps_set (i := 4) sc_Sealing_run_stream.nd rfl (Or.inl rfl) (pe_op op_mod (pe_fld (pv 0) rfl) pe_int))
      (pss_cons (ps_mid (ps_if (pt_cmpR op_eq (pv 4) pe_int (nomark _)) (pss_one (ps_fld (pv 0) (pe_me T.c_Sealing C_Sealing_enciphered_count (hr.mono (by decide)) (pv 0) (pa_cons (pe_op op_add (pe_op op_fdiv (pe_fld (pv 0) rfl) pe_int) pe_int) pa_nil)) rfl)) pss_nil))
      (pss_cons (ps_expr (pe_bm PySem.F.plainAttrs_list PySem.F.slot_list_append PySem.F.type_list_append mt_append (pv 2) (pa_cons (pe_op op_xor (pv 3) (pe_ix (ix_listK (K := K) rfl) (pe_fld (pv 0) rfl) (pv 4) (fun _ _ => rfl))) pa_nil)))
      (pss_one (ps_fld (pv 0) (pe_op op_add (pe_fld (pv 0) rfl) pe_int) rfl))))))
      (pss_one (ps_ret (pv 2))))), ?_⟩
  have cC := T.c_Sealing
  have n_round_keys := T.n_Sealing_round_keys
  have n_factor := T.n_Sealing_factor
  have n_nonce := T.n_Sealing_nonce
  have n_opening := T.n_Sealing_opening
  have n_stream := T.n_Sealing_stream
  have n_beside_length := T.n_Sealing_beside_length
  have n_text_length := T.n_Sealing_text_length
  have n_text_begun := T.n_Sealing_text_begun
  have n_tagged := T.n_Sealing_tagged
  have n_waiting := T.n_Sealing_waiting
  have L0 := Loc.self hx
  have rl := runS_len s.key s.nonce d s.tl
  walk_at "init"
  apply r_new L0 (by decide)
  intro p H1 L1
  walk_at "go"
  refine f_list (xs := nv d) (fun i σ H' => ∃ (v3 v4 : Option V) (c : Addr) (str : List Nat) (ms : List (Addr × HO)), σ = [some (.ref x), some (.ref e), some (.ref p), v3, v4] ∧ Loc (er H x) H' ((x, .ins ad.Sealing dx (fs_Sealing (.ref a) (.int (s.fac : Int)) (.ref b) (.bl s.op) (.ref c) (.int (s.bl : Int)) (.int ((s.tl + i : Nat) : Int)) (.bl s.begun) (.int ((tgOf s.fac s.z : Nat) : Int)) (.ref t))) :: (p, .lst (nv ((runS s.key s.nonce d s.tl).take i))) :: ms) ∧ (∀ H2 o2 l2, Loc (er H x) H2 ((x, o2) :: (p, l2) :: ms) → SqL K (er (res H2 av) x) c (nv str)) ∧ ((s.tl + i) % 16 ≠ 0 → str = Sy22.block s.key (Sy22.counter s.nonce ((s.tl + i) / 16 + 2))))
    ⟨_, _, c, s.stream, [], rfl, L1, fun H2 o2 l2 L => (res_er L.same).seq r3, ok.str⟩ (fun i σ H' _ ⟨_, _, _, _, _, _, L, _⟩ => L.arg he) ?_ ?_
  · rintro i y σ H2 hy ⟨v3, v4, c2, str, ms, rfl, L2, hcl, hst⟩
    obtain ⟨hi, rfl⟩ := nv_of_get hy
    have hx2 := L2.get 0 rfl
    have ht : ((runS s.key s.nonce d s.tl).take i).length = i := by rw [List.length_take, rl]; omega
    walk_at "go"
    refine ⟨fun σ' H' => ∃ (c3 : Addr) (ms3 : List (Addr × HO)), σ' = [some (.ref x), some (.ref e), some (.ref p), some (.int ((d.getD i 0 : Nat) : Int)), some (.int (((s.tl + i) % 16 : Nat) : Int))] ∧ Loc (er H x) H' ((x, .ins ad.Sealing dx (fs_Sealing (.ref a) (.int (s.fac : Int)) (.ref b) (.bl s.op) (.ref c3) (.int (s.bl : Int)) (.int ((s.tl + i : Nat) : Int)) (.bl s.begun) (.int ((tgOf s.fac s.z : Nat) : Int)) (.ref t))) :: (p, .lst (nv ((runS s.key s.nonce d s.tl).take i))) :: ms3) ∧ (∀ H2 o2 l2, Loc (er H x) H2 ((x, o2) :: (p, l2) :: ms3) → SqL K (er (res H2 av) x) c3 (nv (Sy22.block s.key (Sy22.counter s.nonce ((s.tl + i) / 16 + 2))))), ?_, ?_⟩
    · walk_at "go"
      refine r_if (fun hc => ?_) (fun hc => ?_)
      · walk_at "go"
        refine use_enciphered_count (s := { s with stream := str, tl := s.tl + i }) L2 0 rfl ⟨dx, a, b, c2, t, rfl, L2.argE 0 rfl h1, L2.argE 0 rfl h2, (same_er res_up x).seq (hcl _ _ _ L2), L2.argE 0 rfl h4⟩ ⟨ok.key, ok.nlen, ok.nb, ok.zb, hst⟩ fun p3 H3 M3 L3 => ?_
        have hx3 := L3.get 0 rfl
        walk_at "go"
        refine r_putF L3 0 rfl cC n_stream (by walk_at "lt1000") fun H4 L4 => ?_
        simp only [put_Sealing_stream, List.cons_append, List.set_cons_zero] at L4
        walk_at "go"
        exact ⟨p3, _, rfl, L4, fun H2 o2 l2 L => L.lstR hav 0 (ms.length + 2) rfl (by simp) (by omega)⟩
      · walk_at "go"
        refine ⟨c2, ms, rfl, L2, ?_⟩
        rw [← hst hc]
        exact hcl
    · rintro σ' H3 ⟨c3, ms3, rfl, L3, hcl3⟩
      have bl := (block_blk ok.key (counter_blk ok.nlen ok.nb ((s.tl + i) / 16 + 2))).len
      have hx3 := L3.get 0 rfl
      have h33 := (same_unEr x).seq ((same_er res_up x).seq (hcl3 _ _ _ L3))
      have hm : (s.tl + i) % 16 < 16 := Nat.mod_lt _ (by decide)
      walk_at "go"
      refine r_append L3 1 rfl (by rw [nv_len, ht, sizeLine_eq]; omega) fun H4 L4 => ?_
      simp only [List.set_cons_zero, List.set_cons_succ, nv_snoc] at L4
      have hx4 := L4.get 0 rfl
      walk_at "go"
      refine r_putF L4 0 rfl cC n_text_length (by walk_at "lt1000") fun H5 L5 => ?_
      simp only [put_Sealing_text_length, List.set_cons_zero] at L5
      walk_at "go"
      refine ⟨_, _, c3, _, ms3, rfl, ?_, hcl3, fun hne => ?_⟩
      · rw [runS_take _ _ _ _ hi]
        exact L5
      · rw [show (s.tl + (i + 1)) / 16 = (s.tl + i) / 16 by omega]
  · rintro σ H2 ⟨v3, v4, c2, str, ms, rfl, L2, hcl, hst⟩
    rw [nv_len] at L2 hst
    rw [← rl, List.take_length, rl] at L2
    walk_at "go"
    exact k H2 _ p str ms L2 ⟨dx, a, b, c2, t, rfl, (res_er L2.same).seq r1, (res_er L2.same).seq r2, hcl _ _ _ L2, (res_er L2.same).seq r4⟩ ⟨ok.key, ok.nlen, ok.nb, ok.zb, hst⟩
theorem use_run_stream {H H0 : Hp} {ls : List (Addr × HO)} {Q : VK} {E : XK} {x e : Addr} {s : SS} {d : List Nat} {o : HO} (L : Loc H0 H ls) (j : Nat) (hj : ls[j]? = some (x, o)) {av : Addr → Prop} (hav : ∀ b, av b → H b ≠ none) (hS : SealAt K ad.Sealing (res H av) x s o) (he : SqL K (er H x) e (nv d)) (ok : s.Ok) (dl : d.length < 4700)
    (q : ∀ H' o' p str ms, Loc H0 H' (ls.set j (x, o') ++ (p, .lst (nv (runS s.key s.nonce d s.tl))) :: ms) → Loc (er H x) H' ((x, o') :: (p, .lst (nv (runS s.key s.nonce d s.tl))) :: ms) → SealAt K ad.Sealing (res H' av) x { s with stream := str, tl := s.tl + d.length } o' → ({ s with stream := str, tl := s.tl + d.length } : SS).Ok → Q (.ref p) H') : sp_Sealing_run_stream K ad (.ref x :: ([.ref e] ++ [])) H Q E :=
  ⟨av, x, e, s, d, o, hav, rfl, L.get j hj, hS, he, ok, dl, fun H' o' p str ms M hS' ok' => q H' o' p str ms (L.meth j hj M) M hS' ok'⟩
/-! take_text -/
def zOf (s : SS) : List Nat := if s.begun = true then s.z else Sy22.filled s.z
theorem zOf_bytes {s : SS} (h : Bytes s.z) : Bytes (zOf s) := by
  unfold zOf
  split
  · exact h
  · exact filled_bytes h
def outOf (s : SS) (d : List Nat) : List Nat := if s.op = true then d else runS s.key s.nonce d s.tl
theorem ks_lt {key nonce : List Nat} (k : KeyOk key) (h : nonce.length = 12) (hb : Bytes nonce) (j : Nat) : ks key nonce j < 256 := (block_blk k (counter_blk h hb _)).bytes.at_ _
theorem runS_bytes {key nonce t : List Nat} (k : KeyOk key) (h : nonce.length = 12) (hb : Bytes nonce) (ht : Bytes t) (n : Nat) : Bytes (runS key nonce t n) := fun y hy => by
  unfold runS at hy
  obtain ⟨i, _, rfl⟩ := List.mem_map.mp hy
  exact xor256 (ht.at_ i) (ks_lt k h hb _)
def sp_Sealing_take_text (K : PySem.W.Frag) (ad : Adr) : Sp := fun vs H Q _ => ∃ (av : Addr → Prop) (x e : Addr) (s : SS) (d : List Nat) (o : HO), (∀ b, av b → H b ≠ none) ∧ vs = [.ref x, .ref e] ∧ H x = some o ∧ SealAt K ad.Sealing (res H av) x s o ∧ SqL K (er H x) e (nv d) ∧ s.Ok ∧ Bytes d ∧ d.length < 4700 ∧ ∀ H' o' p str ms, Loc (er H x) H' ((x, o') :: (p, .lst (nv (runS s.key s.nonce d s.tl))) :: ms) → SealAt K ad.Sealing (res H' av) x { s with stream := str, tl := s.tl + d.length, begun := true, z := zOf s ++ outOf s d } o' → ({ s with stream := str, tl := s.tl + d.length, begun := true, z := zOf s ++ outOf s d } : SS).Ok → Q (.ref p) H'
abbrev s_Sealing_take_text : Stmt := inClass (top 36) 6
theorem sc_Sealing_take_text : FnScope ["self", "data", "run"] ["self", "data"] (defScope s_Sealing_take_text) := ⟨rfl, rfl, rfl, by decide +kernel, rfl, by decide +kernel, by decide +kernel⟩
theorem ok_Sealing_take_text {f : Addr} {fd : FuncData} (F : Fun K "take_text" "Sealing.take_text" s_Sealing_take_text f fd) (T : Txt K mg ad) (C_Sealing_hold : Method P w K mg base 2 ad.Sealing "hold" ["self", "data"] (sp_Sealing_hold K ad)) (C_Sealing_fill_block : Method P w K mg base 3 ad.Sealing "fill_block" ["self"] (sp_Sealing_fill_block K ad)) (C_Sealing_run_stream : Method P w K mg base 5 ad.Sealing "run_stream" ["self", "data"] (sp_Sealing_run_stream K ad)) : FnOk P w K mg base CX0 6 f fd ["self", "data"] (sp_Sealing_take_text K ad) := by
  refine F.ok sc_Sealing_take_text (fun vs H Q E h => ?_) (fun cdv A outer s H vs Q E hr h => ?_)
  · obtain ⟨av, x, e, s, d, o, _, rfl, _⟩ := h; rfl
  obtain ⟨av, x, e, s, d, o, hav, rfl, hx, hS, he, ok, db, dl, k⟩ := h
  refine ⟨_, (pss_cons (ps_mid (ps_if (pt_not (pt_val (pe_fld (pv 0) rfl))) (pss_cons (ps_fld (pv 0) pe_bl rfl)
      (pss_one (ps_expr (pe_me0 T.c_Sealing C_Sealing_fill_block (hr.mono (by decide)) (pv 0))))) pss_nil))
      (pss_cons (ps_set (i := 2) sc_Sealing_take_text.nd rfl (Or.inl rfl) (pe_me T.c_Sealing C_Sealing_run_stream (hr.mono (by decide)) (pv 0) (pa_cons (pv 1) pa_nil)))
      (pss_cons (ps_expr (pe_me T.c_Sealing C_Sealing_hold (hr.mono (by decide)) (pv 0) (pa_cons (pe_ifExp (pt_val (pe_fld (pv 0) rfl)) (pv 1) (pv 2)) pa_nil)))
      (pss_one (ps_ret (pv 2)))))), ?_⟩
  have cC := T.c_Sealing
  have n_round_keys := T.n_Sealing_round_keys
  have n_factor := T.n_Sealing_factor
  have n_nonce := T.n_Sealing_nonce
  have n_opening := T.n_Sealing_opening
  have n_stream := T.n_Sealing_stream
  have n_beside_length := T.n_Sealing_beside_length
  have n_text_length := T.n_Sealing_text_length
  have n_text_begun := T.n_Sealing_text_begun
  have n_tagged := T.n_Sealing_tagged
  have n_waiting := T.n_Sealing_waiting
  obtain ⟨dx, a, b, c, t, rfl, h1, h2, h3, h4⟩ := id hS
  have L0 := Loc.self hx
  have rl := runS_len s.key s.nonce d s.tl
  walk_at "init"
  refine ⟨fun σ' H' => ∃ (o1 : HO) (ms : List (Addr × HO)), σ' = [some (.ref x), some (.ref e), none] ∧ Loc (er H x) H' ((x, o1) :: ms) ∧ SealAt K ad.Sealing (res H' av) x { s with begun := true, z := zOf s } o1, ?_, ?_⟩
  · walk_at "go"
    cases hb : s.begun with
    | true =>
      refine ite_ff ?_
      walk_at "go"
      refine ⟨_, [], rfl, L0, ?_⟩
      rw [show zOf s = s.z by unfold zOf; rw [if_pos hb]]
      exact ⟨dx, a, b, c, t, by rw [hb]; rfl, h1, h2, h3, h4⟩
    | false =>
      refine ite_tt ?_
      walk_at "go"
      refine r_putF L0 0 rfl cC n_text_begun (by walk_at "lt1000") fun H1 L1 => ?_
      simp only [put_Sealing_text_begun, List.set_cons_zero] at L1
      have sm1 : Same (er (res H av) x) (er (res H1 av) x) := res_er L1.same
      have hS1 : SealAt K ad.Sealing (res H1 av) x { s with begun := true } _ := ⟨dx, a, b, c, t, rfl, sm1.seq h1, sm1.seq h2, sm1.seq h3, sm1.seq h4⟩
      have hx1 := L1.get 0 rfl
      walk_at "go"
      refine use_fill_block L1 0 rfl (avNext hav L1) hS1 ok.zb fun H2 o2 ms L2 _ hS2 => ?_
      walk_at "go"
      refine ⟨o2, _, rfl, L2, ?_⟩
      rw [show zOf s = Sy22.filled s.z by unfold zOf; rw [if_neg (by rw [hb]; exact Bool.noConfusion)]]
      exact hS2
  · rintro σ' H1 ⟨o1, ms1, rfl, L1, hS1⟩
    have ok1 : ({ s with begun := true, z := zOf s } : SS).Ok := ⟨ok.key, ok.nlen, ok.nb, zOf_bytes ok.zb, ok.str⟩
    obtain ⟨dx1, a1, b1, c1, t1, rfl, h11, h21, h31, h41⟩ := id hS1
    have hx1 := L1.get 0 rfl
    walk_at "go"
    refine use_run_stream L1 0 rfl (avNext hav L1) hS1 (L1.argE 0 rfl he) ok1 dl fun H2 o2 p str ms L2 N2 hS2 ok2 => ?_
    obtain ⟨dx2, a2, b2, c2, t2, rfl, h12, h22, h32, h42⟩ := id hS2
    have hx2 := L2.get 0 rfl
    simp only [List.set_cons_zero, List.cons_append] at L2
    have hp2 : SqL K (er H2 x) p (nv (runS s.key s.nonce d s.tl)) := L2.lstE 0 (ms1.length + 1) rfl (by simp) (by omega)
    walk_at "go"
    have fin : ∀ (H3 : Hp) (o3 : HO) (ms3 : List (Addr × HO)), Loc (er H2 x) H3 ((x, o3) :: ms3) → SealAt K ad.Sealing (res H3 av) x { s with stream := str, tl := s.tl + d.length, begun := true, z := zOf s ++ outOf s d } o3 → Q (.ref p) H3 := fun H3 o3 ms3 M3 hS3 => by
      have L3 := L2.meth 0 rfl M3
      have hp3 : (p, HO.lst (nv (runS s.key s.nonce d s.tl))) ∈ (((x, HO.ins ad.Sealing dx2 (fs_Sealing (V.ref a2) (V.int (SS.fac { s with stream := str, tl := s.tl + d.length, begun := true, z := zOf s } : Int)) (V.ref b2) (V.bl s.op) (V.ref c2) (V.int (s.bl : Int)) (V.int ((s.tl + d.length : Nat) : Int)) (V.bl true) (V.int ((tgOf (SS.fac { s with stream := str, tl := s.tl + d.length, begun := true, z := zOf s }) (zOf s) : Nat) : Int)) (V.ref t2))) :: (ms1 ++ (p, HO.lst (nv (runS s.key s.nonce d s.tl))) :: ms)).set 0 (x, o3) ++ ms3) := by simp
      have L3' : Loc (er H x) H3 ((x, o3) :: (p, .lst (nv (runS s.key s.nonce d s.tl))) :: []) := L3.sub (by simp only [List.set_cons_zero, List.cons_append]; refine List.Sublist.cons_cons _ ?_; refine List.singleton_sublist.mpr ?_; simp)
      refine k H3 o3 p str [] L3' hS3 ⟨ok.key, ok.nlen, ok.nb, Bytes.app (zOf_bytes ok.zb) ?_, ok2.str⟩
      unfold outOf
      split
      · exact db
      · exact runS_bytes ok.key ok.nlen ok.nb db _
    have M2 := Loc.self hx2
    have hav2 := avNext (avNext hav L1) N2
    cases ho : s.op with
    | true =>
      refine ite_tt ?_
      walk_at "go"
      refine use_hold M2 0 rfl hav2 hS2 (L2.argE 0 rfl he) (zOf_bytes ok.zb) db dl fun H3 o3 ms3 M3 _ hS3 => ?_
      walk_at "go"
      refine fin H3 o3 _ M3 ?_
      rw [show outOf s d = d by unfold outOf; rw [if_pos ho]]
      exact hS3
    | false =>
      refine ite_ff ?_
      walk_at "go"
      refine use_hold M2 0 rfl hav2 hS2 hp2 (zOf_bytes ok.zb) (runS_bytes ok.key ok.nlen ok.nb db _) (by rw [rl]; exact dl) fun H3 o3 ms3 M3 _ hS3 => ?_
      walk_at "go"
      refine fin H3 o3 _ M3 ?_
      rw [show outOf s d = runS s.key s.nonce d s.tl by unfold outOf; rw [if_neg (by rw [ho]; exact Bool.noConfusion)]]
      exact hS3
theorem use_take_text {H H0 : Hp} {ls : List (Addr × HO)} {Q : VK} {E : XK} {x e : Addr} {s : SS} {d : List Nat} {o : HO} (L : Loc H0 H ls) (j : Nat) (hj : ls[j]? = some (x, o)) {av : Addr → Prop} (hav : ∀ b, av b → H b ≠ none) (hS : SealAt K ad.Sealing (res H av) x s o) (he : SqL K (er H x) e (nv d)) (ok : s.Ok) (db : Bytes d) (dl : d.length < 4700)
    (q : ∀ H' o' p str ms, Loc H0 H' (ls.set j (x, o') ++ (p, .lst (nv (runS s.key s.nonce d s.tl))) :: ms) → Loc (er H x) H' ((x, o') :: (p, .lst (nv (runS s.key s.nonce d s.tl))) :: ms) → SealAt K ad.Sealing (res H' av) x { s with stream := str, tl := s.tl + d.length, begun := true, z := zOf s ++ outOf s d } o' → ({ s with stream := str, tl := s.tl + d.length, begun := true, z := zOf s ++ outOf s d } : SS).Ok → Q (.ref p) H') : sp_Sealing_take_text K ad (.ref x :: ([.ref e] ++ [])) H Q E :=
  ⟨av, x, e, s, d, o, hav, rfl, L.get j hj, hS, he, ok, db, dl, fun H' o' p str ms M hS' ok' => q H' o' p str ms (L.meth j hj M) M hS' ok'⟩
end
end
section
local macro_rules | `(tactic| walk_at "lk") => `(tactic| first | exact get_Sealing_round_keys | exact get_Sealing_factor | exact get_Sealing_nonce | exact get_Sealing_opening | exact get_Sealing_stream | exact get_Sealing_beside_length | exact get_Sealing_text_length | exact get_Sealing_text_begun | exact get_Sealing_tagged | exact get_Sealing_waiting | exact no_Sealing_enciphered_count | exact no_Sealing_hold | exact no_Sealing_fill_block | exact no_Sealing_take_beside | exact no_Sealing_run_stream | exact no_Sealing_take_text | exact no_Sealing_tag | rfl)
local macro_rules | `(tactic| walk_at "put") => `(tactic| ((walk_at "go"); (walk_at "fp"); (intro H' L'); (simp only [put_Sealing_round_keys, put_Sealing_factor, put_Sealing_nonce, put_Sealing_opening, put_Sealing_stream, put_Sealing_beside_length, put_Sealing_text_length, put_Sealing_text_begun, put_Sealing_tagged, put_Sealing_waiting, List.set_cons_zero, List.set_cons_succ] at L'); (try walk_at "go")))
section
variable {P : Program} {w : World} {K : PySem.W.Frag} {mg : Str → Option Value} {base : Heap} {ad : Adr}
/-! tag -/
def tagOf (s : SS) : List Nat := Sy22.big 16 (Sy22.hashed s.fac (Sy22.filled s.z ++ (Sy22.big 8 (8 * s.bl) ++ Sy22.big 8 (8 * s.tl))) ^^^ Sy22.bigOf (Sy22.block s.key (Sy22.counter s.nonce 1)))
theorem tagOf_len (s : SS) : (tagOf s).length = 16 := big_len _ _
theorem tagOf_bytes (s : SS) : Bytes (tagOf s) := big_bytes _ _
def sp_Sealing_tag (K : PySem.W.Frag) (ad : Adr) : Sp := fun vs H Q _ => ∃ (x : Addr) (s : SS) (o : HO), vs = [.ref x] ∧ H x = some o ∧ SealAt K ad.Sealing H x s o ∧ s.Ok ∧ s.bl < 1000000 ∧ s.tl < 1000000 ∧ ∀ p H' o' ms, Loc (er H x) H' ((x, o') :: (p, .lst (nv (tagOf s))) :: ms) → Q (.ref p) H'
abbrev s_Sealing_tag : Stmt := inClass (top 36) 7
theorem sc_Sealing_tag : FnScope ["self"] ["self"] (defScope s_Sealing_tag) := ⟨rfl, rfl, rfl, by decide +kernel, rfl, by decide +kernel, by decide +kernel⟩
theorem ok_Sealing_tag {f : Addr} {fd : FuncData} (F : Fun K "tag" "Sealing.tag" s_Sealing_tag f fd) (T : Txt K mg ad) (C_number_of : Callee P w K mg base 1 "number_of" ["data"] (sp_number_of K)) (C_bytes_of : Callee P w K mg base 1 "bytes_of" ["number", "count"] (sp_bytes_of K)) (C_Sealing_enciphered_count : Method P w K mg base 4 ad.Sealing "enciphered_count" ["self", "count"] (sp_Sealing_enciphered_count K ad)) (C_Sealing_hold : Method P w K mg base 2 ad.Sealing "hold" ["self", "data"] (sp_Sealing_hold K ad)) (C_Sealing_fill_block : Method P w K mg base 3 ad.Sealing "fill_block" ["self"] (sp_Sealing_fill_block K ad)) : FnOk P w K mg base CX0 5 f fd ["self"] (sp_Sealing_tag K ad) := by
  refine F.ok sc_Sealing_tag (fun vs H Q E h => ?_) (fun cdv A outer s H vs Q E hr h => ?_)
  · obtain ⟨x, s, o, rfl, _⟩ := h; rfl
  obtain ⟨x, s, o, rfl, hx, hS, ok, bb, tb, k⟩ := h
  refine ⟨_, (pss_cons (ps_expr (pe_me0 T.c_Sealing C_Sealing_fill_block (hr.mono (by decide)) (pv 0)))
      (pss_cons (ps_expr (pe_me T.c_Sealing C_Sealing_hold (hr.mono (by decide)) (pv 0) (pa_cons (pe_op (op_catK (K := K) rfl) (pe_fn C_bytes_of (hr.mono (by decide)) rfl (pa_cons (pe_op op_mul pe_int (pe_fld (pv 0) rfl)) (pa_cons pe_int pa_nil))) (pe_fn C_bytes_of (hr.mono (by decide)) rfl (pa_cons (pe_op op_mul pe_int (pe_fld (pv 0) rfl)) (pa_cons pe_int pa_nil)))) pa_nil)))
      (pss_one (ps_ret (pe_fn C_bytes_of (hr.mono (by decide)) rfl (pa_cons (pe_op op_xor (pe_fld (pv 0) rfl) (pe_fn C_number_of (hr.mono (by decide)) rfl (pa_cons (pe_me T.c_Sealing C_Sealing_enciphered_count (hr.mono (by decide)) (pv 0) (pa_cons pe_int pa_nil)) pa_nil))) (pa_cons (pe_glob (v := .int 16) rfl T.g_TAG_LENGTH.choose_spec ⟨_, rfl⟩) pa_nil))))))), ?_⟩
  have cC := T.c_Sealing
  have n_round_keys := T.n_Sealing_round_keys
  have n_factor := T.n_Sealing_factor
  have n_nonce := T.n_Sealing_nonce
  have n_opening := T.n_Sealing_opening
  have n_stream := T.n_Sealing_stream
  have n_beside_length := T.n_Sealing_beside_length
  have n_text_length := T.n_Sealing_text_length
  have n_text_begun := T.n_Sealing_text_begun
  have n_tagged := T.n_Sealing_tagged
  have n_waiting := T.n_Sealing_waiting
  obtain ⟨dx, a, b, c, t, rfl, h1, h2, h3, h4⟩ := id hS
  have L0 := Loc.self hx
  walk_at "init"
  refine use_fill_block L0 0 rfl (av := fun _ => False) (fun _ z => z.elim) (by rw [res_false]; exact hS) ok.zb fun H1 o1 ms1 L1 _ hS1 => ?_
  rw [res_false] at hS1
  obtain ⟨dx1, a1, b1, c1, t1, rfl, h11, h21, h31, h41⟩ := id hS1
  have K1' := L1.pick 0 rfl
  have hx1 := K1'.get 0 rfl
  have L1 := Loc.self hx1
  walk_at "go"
  refine use_bytes_of L1 (.inr (.inl rfl)) fun p2 H2 L2 => ?_
  have hx2 := L2.get 0 rfl
  walk_at "go"
  refine use_bytes_of L2 (.inr (.inl rfl)) fun p3 H3 L3 => ?_
  have hx3 := L3.get 0 rfl
  walk_at "go"
  refine r_cat2 L3 (L3.lst 1 rfl) (L3.lst 2 rfl) (by rw [big_len, big_len]; decide) fun p4 H4 L4 => ?_
  have sm4 : Same (er H1 x) (er H4 x) := same_er' L4.same
  walk_at "go"
  refine use_hold L4 0 rfl (av := fun _ => False) (fun _ z => z.elim) (by rw [res_false]; exact hS1.mono sm4) (L4.lstE 0 3 rfl rfl) (filled_bytes ok.zb) ((big_bytes _ _).app (big_bytes _ _)) (by rw [List.length_append, big_len, big_len]; decide) fun H5 o5 ms5 L5 _ hS5 => ?_
  rw [res_false] at hS5
  obtain ⟨dx5, a5, b5, c5, t5, rfl, h15, h25, h35, h45⟩ := id hS5
  have L5 := L5.pick 0 rfl
  have hx5 := L5.get 0 rfl
  walk_at "go"
  have ok5 : ({ s with z := Sy22.filled s.z ++ (Sy22.big 8 (8 * s.bl) ++ Sy22.big 8 (8 * s.tl)) } : SS).Ok := ⟨ok.key, ok.nlen, ok.nb, (filled_bytes ok.zb).app ((big_bytes _ _).app (big_bytes _ _)), ok.str⟩
  refine use_enciphered_count L5 0 rfl hS5 ok5 fun p6 H6 M6 L6 => ?_
  have cb := block_blk ok.key (counter_blk ok.nlen ok.nb 1)
  walk_at "go"
  refine use_number_of (L6.lst 1 rfl) cb.bytes (by show List.length (Sy22.block s.key (Sy22.counter s.nonce 1)) ≤ 500; rw [cb.len]; decide) ?_
  walk_at "go"
  refine use_bytes_of L6 (.inr (.inr rfl)) fun p7 H7 L7 => ?_
  have ew : (Sy22.filled s.z ++ (Sy22.big 8 (8 * s.bl) ++ Sy22.big 8 (8 * s.tl))).length % 16 = 0 := by
    have := filled_len s.z
    rw [List.length_append, List.length_append, big_len, big_len]
    omega
  have L7 : Loc (er H1 x) H7 [(x, .ins ad.Sealing dx5 (fs_Sealing (.ref a5) (.int (s.fac : Int)) (.ref b5) (.bl s.op) (.ref c5) (.int (s.bl : Int)) (.int (s.tl : Int)) (.bl s.begun) (.int ((tgOf s.fac (Sy22.filled s.z ++ (Sy22.big 8 (8 * s.bl) ++ Sy22.big 8 (8 * s.tl))) : Nat) : Int)) (.ref t5))), (p7, .lst (nv (tagOf s)))] := by
    have e : tagOf s = Sy22.big 16 (tgOf s.fac (Sy22.filled s.z ++ (Sy22.big 8 (8 * s.bl) ++ Sy22.big 8 (8 * s.tl))) ^^^ Sy22.bigOf (Sy22.block s.key (Sy22.counter s.nonce 1))) := by
      unfold tagOf
      rw [(tg_whole ew).1]
    rw [e]
    exact L7.sub (by walk_at "subl")
  exact k p7 H7 _ [] (K1'.meth 0 rfl L7)
theorem use_tag {H H0 : Hp} {ls : List (Addr × HO)} {Q : VK} {E : XK} {x : Addr} {s : SS} {o : HO} (L : Loc H0 H ls) (j : Nat) (hj : ls[j]? = some (x, o)) (hS : SealAt K ad.Sealing H x s o) (ok : s.Ok) (bb : s.bl < 1000000) (tb : s.tl < 1000000)
    (q : ∀ p H' o' ms, Loc H0 H' (ls.set j (x, o') ++ (p, .lst (nv (tagOf s))) :: ms) → Same (er H x) (er H' x) → Q (.ref p) H') : sp_Sealing_tag K ad (.ref x :: ([] ++ [])) H Q E :=
  ⟨x, s, o, rfl, L.get j hj, hS, ok, bb, tb, fun p H' o' ms M => q p H' o' ms (L.meth j hj M) (same_er' M.same)⟩
/-- the tag of all that went through -/
theorem tag_is {key nonce w c : List Nat} {op : Bool} {str : List Nat} (kok : KeyOk key) (nl : nonce.length = 12) (nb : Bytes nonce) : tagOf ⟨key, nonce, op, str, w.length, c.length, true, Sy22.filled w ++ c⟩ = Sy22.tag key nonce w c := by
  have cb := block_blk kok (counter_blk nl nb 1)
  rw [← tag_eq cb.len cb.bytes]
  unfold tagOf SS.fac
  dsimp only
  rw [filled_app c (filled_len w), List.append_assoc]
end
end
section
def fs_Pieces (v0 v1 : V) : List (Str × V) := [("sealing", v0), ("summing", v1)]
theorem get_Pieces_sealing {v0 v1 : V} : (fs_Pieces v0 v1).lookup ("sealing" : Str) = some v0 := by rfl
theorem put_Pieces_sealing {v0 v1 y : V} : putF "sealing" y (fs_Pieces v0 v1) = fs_Pieces y v1 := by rfl
theorem get_Pieces_summing {v0 v1 : V} : (fs_Pieces v0 v1).lookup ("summing" : Str) = some v1 := by rfl
theorem put_Pieces_summing {v0 v1 y : V} : putF "summing" y (fs_Pieces v0 v1) = fs_Pieces v0 y := by rfl
theorem no_Pieces_begin {v0 v1 : V} : (fs_Pieces v0 v1).lookup ("begin" : Str) = none := by rfl
theorem no_Pieces_go_with {v0 v1 : V} : (fs_Pieces v0 v1).lookup ("go_with" : Str) = none := by rfl
theorem no_Pieces_more {v0 v1 : V} : (fs_Pieces v0 v1).lookup ("more" : Str) = none := by rfl
theorem no_Pieces_end {v0 v1 : V} : (fs_Pieces v0 v1).lookup ("end" : Str) = none := by rfl
theorem no_Pieces_begin_sum {v0 v1 : V} : (fs_Pieces v0 v1).lookup ("begin_sum" : Str) = none := by rfl
theorem no_Pieces_go_on_sum {v0 v1 : V} : (fs_Pieces v0 v1).lookup ("go_on_sum" : Str) = none := by rfl
theorem no_Pieces_tell_sum {v0 v1 : V} : (fs_Pieces v0 v1).lookup ("tell_sum" : Str) = none := by rfl
theorem no_Pieces_take {v0 v1 : V} : (fs_Pieces v0 v1).lookup ("take" : Str) = none := by rfl

local macro_rules | `(tactic| walk_at "lk") => `(tactic| first | exact get_Pieces_sealing | exact get_Pieces_summing | exact no_Pieces_begin | exact no_Pieces_go_with | exact no_Pieces_more | exact no_Pieces_end | exact no_Pieces_begin_sum | exact no_Pieces_go_on_sum | exact no_Pieces_tell_sum | exact no_Pieces_take | rfl)
local macro_rules | `(tactic| walk_at "put") => `(tactic| ((walk_at "go"); (walk_at "fp"); (intro H' L'); (simp only [put_Pieces_sealing, put_Pieces_summing, List.set_cons_zero, List.set_cons_succ] at L'); (try walk_at "go")))
section
variable {P : Program} {w : World} {K : PySem.W.Frag} {mg : Str → Option Value} {base : Heap} {ad : Adr}
def zIs (w : List Nat) (begun : Bool) (c : List Nat) : List Nat := if begun = true then Sy22.filled w ++ c else w
/-- what is under way, by the object's attributes and what lies behind them -/
def InAt (K : PySem.W.Frag) (ad : Adr) (H : Hp) (v1 v2 : V) (inner : List (Addr × HO)) : Sy22.Obj → Prop
  | .none => v1 = .non ∧ v2 = .non ∧ inner = []
  | .sealing key nonce op w begun c => ∃ y oy str, v1 = .ref y ∧ v2 = .non ∧ inner = [(y, oy)] ∧ SealAt K ad.Sealing H y ⟨key, nonce, op, str, w.length, c.length, begun, zIs w begun c⟩ oy ∧ (⟨key, nonce, op, str, w.length, c.length, begun, zIs w begun c⟩ : SS).Ok ∧ (begun = false → c = []) ∧ w.length + c.length ≤ 3000
  | .summing kind b => ∃ y oy, v1 = .non ∧ v2 = .ref y ∧ inner = [(y, oy)] ∧ SumAt K ad.Summing H y kind b oy ∧ (kind = 1 ∨ kind = 2) ∧ Bytes b ∧ b.length ≤ 3000
def szO : Sy22.Obj → Nat
  | .none => 0
  | .sealing _ _ _ w _ c => w.length + c.length
  | .summing _ b => b.length
theorem InAt.mono {H H' : Hp} {v1 v2 : V} {inner : List (Addr × HO)} {o : Sy22.Obj} (h : InAt K ad H v1 v2 inner o) (e : Same H H') : InAt K ad H' v1 v2 inner o := by
  cases o with
  | none => exact h
  | sealing key nonce op w begun c =>
    obtain ⟨y, oy, str, h1, h2, h3, h4, h5⟩ := h
    exact ⟨y, oy, str, h1, h2, h3, h4.mono (same_er e y), h5⟩
  | summing kind b =>
    obtain ⟨y, oy, h1, h2, h3, h4, h5⟩ := h
    exact ⟨y, oy, h1, h2, h3, h4.mono (same_er e y), h5⟩
theorem SealAt.off {C : Addr} {H H' : Hp} {y x : Addr} {s : SS} {o : HO} {C' dx : Addr} {fs : List (Str × V)} (h : SealAt K C H y s o) (hx : H x = some (.ins C' dx fs)) (e : ∀ b, b ≠ x → H' b = H b) : SealAt K C H' y s o := by
  obtain ⟨d, a, b, c, t, rfl, h1, h2, h3, h4⟩ := h
  exact ⟨d, a, b, c, t, rfl, sq_off h1 hx e, sq_off h2 hx e, sq_off h3 hx e, sq_off h4 hx e⟩
theorem SumAt.off {C : Addr} {H H' : Hp} {y x : Addr} {kind : Nat} {b : List Nat} {o : HO} {C' dx : Addr} {fs : List (Str × V)} (h : SumAt K C H y kind b o) (hx : H x = some (.ins C' dx fs)) (e : ∀ b, b ≠ x → H' b = H b) : SumAt K C H' y kind b o := by
  obtain ⟨d, s, t, rfl, h1, h2⟩ := h
  exact ⟨d, s, t, rfl, sq_off h1 hx e, sq_off h2 hx e⟩
def Pre (K : PySem.W.Frag) (ad : Adr) (av : Addr → Prop) (H0 H : Hp) (x dx : Addr) (o : Sy22.Obj) : Prop := (∀ b, av b → H b ≠ none) ∧ ¬ av x ∧ ∃ v1 v2 inner, Loc H0 H ((x, .ins ad.Pieces dx (fs_Pieces v1 v2)) :: inner) ∧ InAt K ad (res H av) v1 v2 inner o
def Post (K : PySem.W.Frag) (ad : Adr) (av : Addr → Prop) (H0 : Hp) (x dx : Addr) (r : Sy22.Obj × Sy22.Ans) (Q : VK) : Prop := ∀ p H' v1 v2 inner, Loc H0 H' (((x, .ins ad.Pieces dx (fs_Pieces v1 v2)) :: inner) ++ [(p, .lst (iv (Sy22Neutral.oneRow r.2)))]) → InAt K ad (res H' av) v1 v2 inner r.1 → Q (.ref p) H'
/-! __init__ -/
def sp_Pieces_init (K : PySem.W.Frag) (ad : Adr) : Sp := fun vs H Q _ => ∃ (x dx : Addr), vs = [.ref x] ∧ H x = some (.ins ad.Pieces dx []) ∧ ∀ H', Loc (er H x) H' [(x, .ins ad.Pieces dx (fs_Pieces .non .non))] → Q .non H'
abbrev s_Pieces_init : Stmt := inClass (top 38) 0
theorem sc_Pieces_init : FnScope ["self"] ["self"] (defScope s_Pieces_init) := ⟨rfl, rfl, rfl, by decide +kernel, rfl, by decide +kernel, by decide +kernel⟩
theorem ok_Pieces_init {f : Addr} {fd : FuncData} (F : Fun K "__init__" "Pieces.__init__" s_Pieces_init f fd) (T : Txt K mg ad)  : FnOk P w K mg base CX0 1 f fd ["self"] (sp_Pieces_init K ad) := by
  refine F.ok sc_Pieces_init (fun vs H Q E h => ?_) (fun cdv A outer s H vs Q E hr h => ?_)
  · obtain ⟨x, dx, rfl, _⟩ := h; rfl
  obtain ⟨x, dx, rfl, hx, k⟩ := h
  refine ⟨_, (pss_cons (ps_fld (pv 0) pe_non rfl)
      (pss_one (ps_fld (pv 0) pe_non rfl))), ?_⟩
  have cC := T.c_Pieces
  have n_sealing := T.n_Pieces_sealing
  have n_summing := T.n_Pieces_summing
  have L0 := Loc.self hx
  walk_at "init"
  walk_at "fp"
  intro H1 L1
  simp only [List.set_cons_zero] at L1
  walk_at "go"
  walk_at "fp"
  intro H2 L2
  simp only [List.set_cons_zero] at L2
  walk_at "go"
  exact k H2 L2
/-! begin -/
def sp_Pieces_begin (K : PySem.W.Frag) (ad : Adr) : Sp := fun vs H Q _ => ∃ (av : Addr → Prop) (H0 : Hp) (x dx a : Addr) (o : Sy22.Obj) (n b : Nat) (r : List Nat), vs = [.ref x, .int (n : Int), .int (b : Int), .ref a] ∧ Pre K ad av H0 H x dx o ∧ SqL K H0 a (nv r) ∧ Bytes r ∧ r.length = (if n = 16 ∨ n = 24 ∨ n = 32 then n + 12 else 0) ∧ Post K ad av H0 x dx (Sy22.goes o (.begin_ n b (r.take (if n = 16 ∨ n = 24 ∨ n = 32 then n else 0)) (r.drop (if n = 16 ∨ n = 24 ∨ n = 32 then n else 0)))) Q
abbrev s_Pieces_begin : Stmt := inClass (top 38) 1
theorem sc_Pieces_begin : FnScope ["self", "length", "back", "rest"] ["self", "length", "back", "rest"] (defScope s_Pieces_begin) := ⟨rfl, rfl, rfl, by decide +kernel, rfl, by decide +kernel, by decide +kernel⟩
theorem lengthOk_iff (n : Nat) : Sy22.lengthOk n = decide (n ∈ [16, 24, 32]) := by
  unfold Sy22.lengthOk
  rw [Bool.eq_iff_iff]
  simp [or_assoc]
theorem ok_Pieces_begin {f : Addr} {fd : FuncData} (F : Fun K "begin" "Pieces.begin" s_Pieces_begin f fd) (T : Txt K mg ad) (C_Sealing_init : Maker P w K mg base 4 ad.Sealing ["self", "key", "nonce", "opening"] (sp_Sealing_init K ad)) : FnOk P w K mg base CX0 6 f fd ["self", "length", "back", "rest"] (sp_Pieces_begin K ad) := by
  refine F.ok sc_Pieces_begin (fun vs H Q E h => ?_) (fun cdv A outer s H vs Q E hr h => ?_)
  · obtain ⟨av, H0, x, dx, a, o, n, b, r, rfl, _⟩ := h; rfl
  obtain ⟨av, H0, x, dx, a, o, n, b, r, rfl, ⟨hav, nax, v1, v2, inner, L, hI⟩, ha, rb, rl, k⟩ := h
  refine ⟨_, (pss_cons (ps_if (pt_cmpR (op_notInK (K := K) rfl) (pv 1) (pe_glob (v := .ref ad.KEY_LENGTHS) rfl T.g_KEY_LENGTHS rfl) (by rfl)) (pss_one (ps_ret (pe_lst (pa_cons (pe_un un_neg pe_int) pa_nil)))) pss_nil)
      (pss_cons (ps_fld (pv 0) (pe_mk T.k_Sealing C_Sealing_init (hr.mono (by decide)) rfl (pa_cons (pe_slice (sl_listK (K := K) rfl) (pv 3) po_none (po_some (pv 1))) (pa_cons (pe_slice (sl_listK (K := K) rfl) (pv 3) (po_some (pv 1)) po_none) (pa_cons (pe_cmpR op_ne (pv 2) pe_int (nomark _)) pa_nil)))) rfl)
      (pss_cons (ps_fld (pv 0) pe_non rfl)
      (pss_one (ps_ret (pe_lst (pa_cons pe_int pa_nil))))))), ?_⟩
  have cC := T.c_Pieces
  have n_sealing := T.n_Pieces_sealing
  have n_summing := T.n_Pieces_summing
  have hx := L.get 0 rfl
  walk_at "init"
  refine r_notInT (ns := [16, 24, 32]) (T.t_KEY_LENGTHS _) ?_
  walk_at "go"
  refine r_ifn (fun hc => ?_) (fun hc => ?_)
  · walk_at "go"
    refine r_new (Loc.start H) (by show 1 ≤ sizeLine; decide) fun p H1 M1 => ?_
    have e : Sy22.goes o (.begin_ n b (r.take (if n = 16 ∨ n = 24 ∨ n = 32 then n else 0)) (r.drop (if n = 16 ∨ n = 24 ∨ n = 32 then n else 0))) = (o, Sy22.only (-2)) := by
      show (if Sy22.lengthOk n = false then _ else _) = _
      rw [if_pos (by rw [lengthOk_iff]; simpa using hc)]
    rw [e] at k
    exact k p H1 v1 v2 inner (L.calls M1) (hI.mono (res_same M1.same))
  · have hn : n = 16 ∨ n = 24 ∨ n = 32 := by simpa using hc
    rw [if_pos hn] at rl k
    have kok : KeyOk (r.take n) := ⟨by rw [List.length_take]; omega, rb.take n⟩
    have nl : (r.drop n).length = 12 := by rw [List.length_drop]; omega
    have e : Sy22.goes o (.begin_ n b (r.take n) (r.drop n)) = (.sealing (r.take n) (r.drop n) (decide (b ≠ 0)) [] false [], Sy22.only 0) := by
      show (if Sy22.lengthOk n = false then _ else _) = _
      rw [if_neg (by rw [lengthOk_iff, show decide (n ∈ [16, 24, 32]) = true by simpa using hn]; exact Bool.noConfusion)]
    rw [e] at k
    walk_at "go"
    refine r_slice (Loc.start H) (L.arg ha) fun p2 H2 M2 => ?_
    rw [nv_cutTo (by omega) (by omega), Int.toNat_natCast] at M2
    walk_at "go"
    refine r_slice M2 (M2.arg (L.arg ha)) fun p3 H3 M3 => ?_
    rw [nv_cutFrom (by omega) (by omega), Int.toNat_natCast] at M3
    walk_at "go"
    refine r_newI M3 fun y dy H4 M4 => ?_
    refine ⟨av, y, dy, p2, p3, r.take n, r.drop n, !decide (b = 0), avSame hav M4.same, rfl, M4.get 3 rfl, M4.lstE 3 0 rfl rfl, M4.lstE 3 1 rfl rfl, kok, nl, rb.drop n, fun H5 oy ms N5 hS => ⟨rfl, ?_⟩⟩
    have M5 := M4.meth 3 rfl N5
    have L5 : Loc H0 H5 [(x, .ins ad.Pieces dx (fs_Pieces v1 v2)), (y, oy)] := (L.pick 0 rfl).calls (M5.pick 3 rfl)
    walk_at "go"
    refine r_putFo L5 0 rfl cC n_sealing (by walk_at "lt1000") fun H6 L6 o6 => ?_
    simp only [put_Pieces_sealing, List.set_cons_zero] at L6
    walk_at "go"
    refine r_putFo L6 0 rfl cC n_summing (by walk_at "lt1000") fun H7 L7 o7 => ?_
    simp only [put_Pieces_summing, List.set_cons_zero] at L7
    walk_at "go"
    refine r_new (Loc.start H7) (by show 1 ≤ sizeLine; decide) fun p8 H8 M8 => ?_
    have e2 : decide (b ≠ 0) = !decide (b = 0) := by simp
    refine k p8 H8 _ _ [(y, oy)] (L7.calls M8) ⟨y, oy, [], rfl, rfl, rfl, ?_, ⟨kok, nl, rb.drop n, Bytes.nil, fun h => absurd rfl h⟩, fun _ => rfl, by decide⟩
    rw [e2]
    exact ((hS.off ((res_out nax).trans (L5.get 0 rfl)) (res_off (y := y) o6)).off ((res_out nax).trans (L6.get 0 rfl)) (res_off (y := y) o7)).mono (same_er (res_same M8.same) y)
/-! with -/
def sp_Pieces_go_with (K : PySem.W.Frag) (ad : Adr) : Sp := fun vs H Q _ => ∃ (av : Addr → Prop) (H0 : Hp) (x dx a : Addr) (o : Sy22.Obj) (d : List Nat), vs = [.ref x, .ref a] ∧ Pre K ad av H0 H x dx o ∧ SqL K H0 a (nv d) ∧ Bytes d ∧ szO o + d.length ≤ 3000 ∧ Post K ad av H0 x dx (Sy22.goes o (.with_ d)) Q
abbrev s_Pieces_go_with : Stmt := inClass (top 38) 2
theorem sc_Pieces_go_with : FnScope ["self", "data"] ["self", "data"] (defScope s_Pieces_go_with) := ⟨rfl, rfl, rfl, by decide +kernel, rfl, by decide +kernel, by decide +kernel⟩
theorem ok_Pieces_go_with {f : Addr} {fd : FuncData} (F : Fun K "go_with" "Pieces.go_with" s_Pieces_go_with f fd) (T : Txt K mg ad) (C_Sealing_take_beside : Method P w K mg base 3 ad.Sealing "take_beside" ["self", "data"] (sp_Sealing_take_beside K ad)) : FnOk P w K mg base CX0 4 f fd ["self", "data"] (sp_Pieces_go_with K ad) := by
  refine F.ok sc_Pieces_go_with (fun vs H Q E h => ?_) (fun cdv A outer s H vs Q E hr h => ?_)
  · obtain ⟨av, H0, x, dx, a, o, d, rfl, _⟩ := h; rfl
  obtain ⟨av, H0, x, dx, a, o, d, rfl, ⟨hav, nax, v1, v2, inner, L, hI⟩, ha, db, hz, k⟩ := h
  refine ⟨_, (pss_cons (ps_if (PW.pt (pw_or (pt_cmpR op_isN (pe_fld (pv 0) rfl) pe_non (nomark _)) (pw_or1 (pt_val (pe_fld (pe_fld (pv 0) rfl) rfl))))) (pss_one (ps_ret (pe_lst (pa_cons (pe_un un_neg pe_int) pa_nil)))) pss_nil)
      (pss_cons (ps_expr (pe_me T.c_Sealing C_Sealing_take_beside (hr.mono (by decide)) (pe_fld (pv 0) rfl) (pa_cons (pv 1) pa_nil)))
      (pss_one (ps_ret (pe_lst (pa_cons pe_int pa_nil)))))), ?_⟩
  have cC := T.c_Pieces
  have n_sealing := T.n_Pieces_sealing
  have n_summing := T.n_Pieces_summing
  have cS := T.c_Sealing
  have nS := T.n_Sealing_text_begun
  have hx := L.get 0 rfl
  cases o with
  | none =>
    obtain ⟨rfl, rfl, rfl⟩ := id hI
    walk_at "init"
    refine ⟨rfl, ?_⟩
    walk_at "go"
    refine ite_tt ?_
    refine ite_tt ?_
    walk_at "go"
    refine r_new (Loc.start H) (by show 1 ≤ sizeLine; decide) fun p H1 M1 => ?_
    exact k p H1 _ _ _ (L.calls M1) (hI.mono (res_same M1.same))
  | summing kind b =>
    obtain ⟨y, oy, rfl, rfl, rfl, _⟩ := id hI
    walk_at "init"
    refine ⟨rfl, ?_⟩
    walk_at "go"
    refine ite_tt ?_
    refine ite_tt ?_
    walk_at "go"
    refine r_new (Loc.start H) (by show 1 ≤ sizeLine; decide) fun p H1 M1 => ?_
    exact k p H1 _ _ _ (L.calls M1) (hI.mono (res_same M1.same))
  | sealing key nonce op w begun c =>
    obtain ⟨y, oy, str, rfl, rfl, rfl, hS, ok, hc0, hwc⟩ := id hI
    obtain ⟨dy, a1, b1, c1, t1, rfl, h1, h2, h3, h4⟩ := id hS
    have hy := L.get 1 rfl
    have hz : w.length + c.length + d.length ≤ 3000 := hz
    walk_at "init"
    refine ⟨rfl, ?_⟩
    walk_at "go"
    refine ite_ff ?_
    walk_at "go"
    cases begun with
    | true =>
      refine ite_tt ?_
      walk_at "go"
      refine r_new (Loc.start H) (by show 1 ≤ sizeLine; decide) fun p H1 M1 => ?_
      exact k p H1 _ _ _ (L.calls M1) (hI.mono (res_same M1.same))
    | false =>
      have hc0 := hc0 rfl
      subst hc0
      refine ite_ff ?_
      walk_at "go"
      refine use_take_beside (d := d) L 1 rfl hav hS (L.argE 1 rfl ha) ok.zb db (by omega) fun H1 o1 ms L1 _ hS1 => ?_
      have L1 : Loc H0 H1 [(x, .ins ad.Pieces dx (fs_Pieces (.ref y) .non)), (y, o1)] := L1.take 2
      walk_at "go"
      refine r_new (Loc.start H1) (by show 1 ≤ sizeLine; decide) fun p H2 M2 => ?_
      refine k p H2 _ _ [(y, o1)] (L1.calls M2) ⟨y, o1, str, rfl, rfl, rfl, ?_, ⟨ok.key, ok.nlen, ok.nb, Bytes.app ok.zb db, ok.str⟩, fun _ => rfl, by rw [List.length_append]; simp at hz ⊢; omega⟩
      rw [List.length_append]
      exact hS1.mono (same_er (res_same M2.same) y)
/-! more -/
def sp_Pieces_more (K : PySem.W.Frag) (ad : Adr) : Sp := fun vs H Q _ => ∃ (av : Addr → Prop) (H0 : Hp) (x dx a : Addr) (o : Sy22.Obj) (d : List Nat), vs = [.ref x, .ref a] ∧ Pre K ad av H0 H x dx o ∧ SqL K H0 a (nv d) ∧ Bytes d ∧ szO o + d.length ≤ 3000 ∧ Post K ad av H0 x dx (Sy22.goes o (.more d)) Q
abbrev s_Pieces_more : Stmt := inClass (top 38) 3
theorem sc_Pieces_more : FnScope ["self", "data", "run"] ["self", "data"] (defScope s_Pieces_more) := ⟨rfl, rfl, rfl, by decide +kernel, rfl, by decide +kernel, by decide +kernel⟩
theorem nv_row (n : Nat) (xs : List Nat) : nv ([n] ++ xs) = iv (Sy22Neutral.oneRow ⟨(n : Int), [xs]⟩) := by
  unfold Sy22Neutral.oneRow Sy22Neutral.ints
  rw [nv_iv]
  simp
theorem blk16 {key nonce : List Nat} (k : KeyOk key) (h : nonce.length = 12) (hb : Bytes nonce) (i : Nat) : (Sy22.block key (Sy22.counter nonce i)).length = 16 := (block_blk k (counter_blk h hb i)).len
theorem ok_Pieces_more {f : Addr} {fd : FuncData} (F : Fun K "more" "Pieces.more" s_Pieces_more f fd) (T : Txt K mg ad) (C_Sealing_take_text : Method P w K mg base 6 ad.Sealing "take_text" ["self", "data"] (sp_Sealing_take_text K ad)) : FnOk P w K mg base CX0 7 f fd ["self", "data"] (sp_Pieces_more K ad) := by
  refine F.ok sc_Pieces_more (fun vs H Q E h => ?_) (fun cdv A outer s H vs Q E hr h => ?_)
  · obtain ⟨av, H0, x, dx, a, o, d, rfl, _⟩ := h; rfl
  obtain ⟨av, H0, x, dx, a, o, d, rfl, ⟨hav, nax, v1, v2, inner, L, hI⟩, ha, db, hz, k⟩ := h
  refine ⟨_, (pss_cons (ps_if (pt_cmpR op_isN (pe_fld (pv 0) rfl) pe_non (nomark _)) (pss_one (ps_ret (pe_lst (pa_cons (pe_un un_neg pe_int) pa_nil)))) pss_nil)
      (pss_cons (ps_set (i := 2) sc_Pieces_more.nd rfl (Or.inl rfl) (pe_me T.c_Sealing C_Sealing_take_text (hr.mono (by decide)) (pe_fld (pv 0) rfl) (pa_cons (pv 1) pa_nil)))
      (pss_one (ps_ret (pe_op (op_catK (K := K) rfl) (pe_lst (pa_cons (pe_callB (c_lenK (K := K) rfl) (by rfl) T.n_len b_len (pa_cons (pv 2) pa_nil)) pa_nil)) (pv 2)))))), ?_⟩
  have cC := T.c_Pieces
  have n_sealing := T.n_Pieces_sealing
  have n_summing := T.n_Pieces_summing
  have hx := L.get 0 rfl
  cases o with
  | none =>
    obtain ⟨rfl, rfl, rfl⟩ := id hI
    walk_at "init"
    refine ⟨rfl, ?_⟩
    walk_at "go"
    refine ite_tt ?_
    walk_at "go"
    refine r_new (Loc.start H) (by show 1 ≤ sizeLine; decide) fun p H1 M1 => ?_
    exact k p H1 _ _ _ (L.calls M1) (hI.mono (res_same M1.same))
  | summing kind b =>
    obtain ⟨y, oy, rfl, rfl, rfl, _⟩ := id hI
    walk_at "init"
    refine ⟨rfl, ?_⟩
    walk_at "go"
    refine ite_tt ?_
    walk_at "go"
    refine r_new (Loc.start H) (by show 1 ≤ sizeLine; decide) fun p H1 M1 => ?_
    exact k p H1 _ _ _ (L.calls M1) (hI.mono (res_same M1.same))
  | sealing key nonce op w begun c =>
    obtain ⟨y, oy, str, rfl, rfl, rfl, hS, ok, hc0, hwc⟩ := id hI
    obtain ⟨dy, a1, b1, c1, t1, rfl, h1, h2, h3, h4⟩ := id hS
    have hy := L.get 1 rfl
    have hz : w.length + c.length + d.length ≤ 3000 := hz
    have rl := runS_len key nonce d c.length
    have er := runS_xor (blk16 ok.key ok.nlen ok.nb) d c.length
    walk_at "init"
    refine ⟨rfl, ?_⟩
    walk_at "go"
    refine ite_ff ?_
    walk_at "go"
    refine use_take_text (d := d) L 1 rfl hav hS (L.argE 1 rfl ha) ok db (by omega) fun H1 o1 p1 str1 ms L1 _ hS1 ok1 => ?_
    have L1 : Loc H0 H1 [(x, .ins ad.Pieces dx (fs_Pieces (.ref y) .non)), (y, o1), (p1, .lst (nv (runS key nonce d c.length)))] := L1.take 3
    have M1 := Loc.start H1
    have hp1 : SqL K H1 p1 (nv (runS key nonce d c.length)) := L1.lst 2 rfl
    walk_at "go"
    refine r_new M1 (by show 1 ≤ sizeLine; decide) fun p2 H2 M2 => ?_
    walk_at "go"
    refine r_cat2 (xs := [(runS key nonce d c.length).length]) M2 (M2.lst 0 rfl) (M2.arg hp1) (by rw [rl, sizeLine_eq, List.length_singleton]; omega) fun p3 H3 M3 => ?_
    have hz' : zOf ⟨key, nonce, op, str, w.length, c.length, begun, zIs w begun c⟩ = Sy22.filled w ++ c := by
      unfold zOf zIs
      dsimp only
      cases begun with
      | true => rfl
      | false => rw [hc0 rfl]; simp
    have eg : Sy22.goes (.sealing key nonce op w begun c) (.more d) = (.sealing key nonce op w true (c ++ if op = true then d else runS key nonce d c.length), ⟨(d.length : Nat), [runS key nonce d c.length]⟩) := by
      rw [er]
      rfl
    rw [eg] at k
    have L3 := (L1.take 2).calls (M3.pick 1 rfl)
    rw [nv_row, rl] at L3
    have ol : (if op = true then d else runS key nonce d c.length).length = d.length := by split <;> simp [rl]
    have eo : outOf ⟨key, nonce, op, str, w.length, c.length, begun, zIs w begun c⟩ d = if op = true then d else runS key nonce d c.length := rfl
    rw [hz', eo] at hS1 ok1
    refine k p3 H3 _ _ [(y, o1)] L3 ⟨y, o1, str1, rfl, rfl, rfl, ?_, ?_, (fun h => by cases h), by rw [List.length_append, ol]; omega⟩
    · unfold zIs
      rw [if_pos rfl, List.length_append, ol, ← List.append_assoc]
      exact hS1.mono (same_er (res_same M3.same) y)
    · unfold zIs
      rw [if_pos rfl, List.length_append, ol, ← List.append_assoc]
      exact ok1
end
end
section
local macro_rules | `(tactic| walk_at "lk") => `(tactic| first | exact get_Pieces_sealing | exact get_Pieces_summing | exact no_Pieces_begin | exact no_Pieces_go_with | exact no_Pieces_more | exact no_Pieces_end | exact no_Pieces_begin_sum | exact no_Pieces_go_on_sum | exact no_Pieces_tell_sum | exact no_Pieces_take | rfl)
local macro_rules | `(tactic| walk_at "put") => `(tactic| ((walk_at "go"); (walk_at "fp"); (intro H' L'); (simp only [put_Pieces_sealing, put_Pieces_summing, List.set_cons_zero, List.set_cons_succ] at L'); (try walk_at "go")))
section
variable {P : Program} {w : World} {K : PySem.W.Frag} {mg : Str → Option Value} {base : Heap} {ad : Adr}
/-! end -/
theorem tag_is' {key nonce w c : List Nat} {op begun : Bool} {str : List Nat} (kok : KeyOk key) (nl : nonce.length = 12) (nb : Bytes nonce) (hc : begun = false → c = []) : tagOf ⟨key, nonce, op, str, w.length, c.length, begun, zIs w begun c⟩ = Sy22.tag key nonce w c := by
  cases begun with
  | true => exact tag_is kok nl nb
  | false =>
    rw [hc rfl, ← tag_is (op := op) (str := str) kok nl nb]
    unfold tagOf SS.fac zIs
    dsimp only
    rw [if_neg (by exact Bool.noConfusion), List.append_nil, filled_self (filled_len w)]
def sp_Pieces_end (K : PySem.W.Frag) (ad : Adr) : Sp := fun vs H Q _ => ∃ (av : Addr → Prop) (H0 : Hp) (x dx : Addr) (o : Sy22.Obj), vs = [.ref x] ∧ Pre K ad av H0 H x dx o ∧ Post K ad av H0 x dx (Sy22.goes o .end_) Q
abbrev s_Pieces_end : Stmt := inClass (top 38) 4
theorem sc_Pieces_end : FnScope ["self", "tag"] ["self"] (defScope s_Pieces_end) := ⟨rfl, rfl, rfl, by decide +kernel, rfl, by decide +kernel, by decide +kernel⟩
theorem ok_Pieces_end {f : Addr} {fd : FuncData} (F : Fun K "end" "Pieces.end" s_Pieces_end f fd) (T : Txt K mg ad) (C_Sealing_tag : Method P w K mg base 5 ad.Sealing "tag" ["self"] (sp_Sealing_tag K ad)) : FnOk P w K mg base CX0 6 f fd ["self"] (sp_Pieces_end K ad) := by
  refine F.ok sc_Pieces_end (fun vs H Q E h => ?_) (fun cdv A outer s H vs Q E hr h => ?_)
  · obtain ⟨av, H0, x, dx, o, rfl, _⟩ := h; rfl
  obtain ⟨av, H0, x, dx, o, rfl, ⟨hav, nax, v1, v2, inner, L, hI⟩, k⟩ := h
  refine ⟨_, (pss_cons (ps_if (pt_cmpR op_isN (pe_fld (pv 0) rfl) pe_non (nomark _)) (pss_one (ps_ret (pe_lst (pa_cons (pe_un un_neg pe_int) pa_nil)))) pss_nil)
      (pss_cons (ps_set (i := 1) sc_Pieces_end.nd rfl (Or.inl rfl) (pe_me0 T.c_Sealing C_Sealing_tag (hr.mono (by decide)) (pe_fld (pv 0) rfl)))
      (pss_cons (ps_fld (pv 0) pe_non rfl)
      (pss_one (ps_ret (pe_op (op_catK (K := K) rfl) (pe_lst (pa_cons (pe_callB (c_lenK (K := K) rfl) (by rfl) T.n_len b_len (pa_cons (pv 1) pa_nil)) pa_nil)) (pv 1))))))), ?_⟩
  have cC := T.c_Pieces
  have n_sealing := T.n_Pieces_sealing
  have n_summing := T.n_Pieces_summing
  have hx := L.get 0 rfl
  cases o with
  | none =>
    obtain ⟨rfl, rfl, rfl⟩ := id hI
    walk_at "init"
    refine ⟨rfl, ?_⟩
    walk_at "go"
    refine ite_tt ?_
    walk_at "go"
    refine r_new (Loc.start H) (by show 1 ≤ sizeLine; decide) fun p H1 M1 => ?_
    exact k p H1 _ _ _ (L.calls M1) (hI.mono (res_same M1.same))
  | summing kind b =>
    obtain ⟨y, oy, rfl, rfl, rfl, _⟩ := id hI
    walk_at "init"
    refine ⟨rfl, ?_⟩
    walk_at "go"
    refine ite_tt ?_
    walk_at "go"
    refine r_new (Loc.start H) (by show 1 ≤ sizeLine; decide) fun p H1 M1 => ?_
    exact k p H1 _ _ _ (L.calls M1) (hI.mono (res_same M1.same))
  | sealing key nonce op w begun c =>
    obtain ⟨y, oy, str, rfl, rfl, rfl, hS, ok, hc0, hwc⟩ := id hI
    obtain ⟨dy, a1, b1, c1, t1, rfl, h1, h2, h3, h4⟩ := id hS
    have hy := L.get 1 rfl
    have et := tag_is' (op := op) (str := str) (w := w) ok.key ok.nlen ok.nb hc0
    have tl := tagOf_len ⟨key, nonce, op, str, w.length, c.length, begun, zIs w begun c⟩
    rw [et] at tl
    walk_at "init"
    refine ⟨rfl, ?_⟩
    walk_at "go"
    refine ite_ff ?_
    walk_at "go"
    refine use_tag L 1 rfl hS.up ok (by show w.length < 1000000; omega) (by show c.length < 1000000; omega) fun p1 H1 o1 ms L1 sm1 => ?_
    rw [et] at L1
    have L1 : Loc H0 H1 [(x, .ins ad.Pieces dx (fs_Pieces (.ref y) .non)), (p1, .lst (nv (Sy22.tag key nonce w c)))] := L1.sub (by simp only [List.set_cons_zero, List.set_cons_succ, List.cons_append, List.nil_append]; walk_at "subl"; done)
    walk_at "go"
    refine r_putF L1 0 rfl cC n_sealing (by walk_at "lt1000") fun H2 L2 => ?_
    simp only [put_Pieces_sealing, List.set_cons_zero] at L2
    walk_at "go"
    refine r_new L2 (by show 1 ≤ sizeLine; decide) fun p2 H3 L3 => ?_
    walk_at "go"
    refine r_cat2 (xs := [(Sy22.tag key nonce w c).length]) L3 (L3.lst 2 rfl) (L3.lst 1 rfl) (by rw [tl]; decide) fun p3 H4 L4 => ?_
    have L4 : Loc H0 H4 [(x, .ins ad.Pieces dx (fs_Pieces .non .non)), (p3, .lst (nv ([(Sy22.tag key nonce w c).length] ++ Sy22.tag key nonce w c)))] := L4.sub (by simp only [List.cons_append, List.nil_append]; walk_at "subl"; done)
    rw [nv_row, tl] at L4
    exact k p3 H4 _ _ [] L4 ⟨rfl, rfl, rfl⟩
/-! sum -/
def sp_Pieces_begin_sum (K : PySem.W.Frag) (ad : Adr) : Sp := fun vs H Q _ => ∃ (av : Addr → Prop) (H0 : Hp) (x dx : Addr) (o : Sy22.Obj) (n : Nat), vs = [.ref x, .int (n : Int)] ∧ Pre K ad av H0 H x dx o ∧ Post K ad av H0 x dx (Sy22.goes o (.sum n)) Q
abbrev s_Pieces_begin_sum : Stmt := inClass (top 38) 5
theorem sc_Pieces_begin_sum : FnScope ["self", "kind"] ["self", "kind"] (defScope s_Pieces_begin_sum) := ⟨rfl, rfl, rfl, by decide +kernel, rfl, by decide +kernel, by decide +kernel⟩
theorem ok_Pieces_begin_sum {f : Addr} {fd : FuncData} (F : Fun K "begin_sum" "Pieces.begin_sum" s_Pieces_begin_sum f fd) (T : Txt K mg ad) (C_Summing_init : Maker P w K mg base 1 ad.Summing ["self", "kind"] (sp_Summing_init K ad)) : FnOk P w K mg base CX0 3 f fd ["self", "kind"] (sp_Pieces_begin_sum K ad) := by
  refine F.ok sc_Pieces_begin_sum (fun vs H Q E h => ?_) (fun cdv A outer s H vs Q E hr h => ?_)
  · obtain ⟨av, H0, x, dx, o, n, rfl, _⟩ := h; rfl
  obtain ⟨av, H0, x, dx, o, n, rfl, ⟨hav, nax, v1, v2, inner, L, hI⟩, k⟩ := h
  refine ⟨_, (pss_cons (ps_if (pt_cmpR (op_notInK (K := K) rfl) (pv 1) (pe_glob (v := .ref ad.KINDS) rfl T.g_KINDS rfl) (by rfl)) (pss_one (ps_ret (pe_lst (pa_cons (pe_un un_neg pe_int) pa_nil)))) pss_nil)
      (pss_cons (ps_fld (pv 0) (pe_mk T.k_Summing C_Summing_init (hr.mono (by decide)) rfl (pa_cons (pv 1) pa_nil)) rfl)
      (pss_cons (ps_fld (pv 0) pe_non rfl)
      (pss_one (ps_ret (pe_lst (pa_cons pe_int pa_nil))))))), ?_⟩
  have cC := T.c_Pieces
  have n_sealing := T.n_Pieces_sealing
  have n_summing := T.n_Pieces_summing
  have hx := L.get 0 rfl
  walk_at "init"
  refine r_notInT (ns := [1, 2]) (T.t_KINDS _) ?_
  walk_at "go"
  refine r_ifn (fun hc => ?_) (fun hc => ?_)
  · walk_at "go"
    refine r_new (Loc.start H) (by show 1 ≤ sizeLine; decide) fun p H1 M1 => ?_
    have e : Sy22.goes o (.sum n) = (o, Sy22.only (-2)) := by
      show (if n = 1 ∨ n = 2 then _ else _) = _
      rw [if_neg (by simpa using hc)]
    rw [e] at k
    exact k p H1 v1 v2 inner (L.calls M1) (hI.mono (res_same M1.same))
  · have hn : n = 1 ∨ n = 2 := by simpa using hc
    have e : Sy22.goes o (.sum n) = (.summing n [], Sy22.only 0) := by
      show (if n = 1 ∨ n = 2 then _ else _) = _
      rw [if_pos hn]
    rw [e] at k
    walk_at "go"
    refine r_newI (Loc.start H) fun y dy H4 M4 => ?_
    refine ⟨av, y, dy, n, avSame hav M4.same, rfl, M4.get 1 rfl, hn, fun H5 oy ms N5 hS => ⟨rfl, ?_⟩⟩
    have M5 := M4.meth 1 rfl N5
    have L5 : Loc H0 H5 [(x, .ins ad.Pieces dx (fs_Pieces v1 v2)), (y, oy)] := (L.pick 0 rfl).calls (M5.pick 1 rfl)
    walk_at "go"
    refine r_putFo L5 0 rfl cC n_summing (by walk_at "lt1000") fun H6 L6 o6 => ?_
    simp only [put_Pieces_summing, List.set_cons_zero] at L6
    walk_at "go"
    refine r_putFo L6 0 rfl cC n_sealing (by walk_at "lt1000") fun H7 L7 o7 => ?_
    simp only [put_Pieces_sealing, List.set_cons_zero] at L7
    walk_at "go"
    refine r_new (Loc.start H7) (by show 1 ≤ sizeLine; decide) fun p8 H8 M8 => ?_
    exact k p8 H8 _ _ [(y, oy)] (L7.calls M8) ⟨y, oy, rfl, rfl, rfl, ((hS.off ((res_out nax).trans (L5.get 0 rfl)) (res_off (y := y) o6)).off ((res_out nax).trans (L6.get 0 rfl)) (res_off (y := y) o7)).mono (same_er (res_same M8.same) y), hn, Bytes.nil, by decide⟩
/-! add -/
def sp_Pieces_go_on_sum (K : PySem.W.Frag) (ad : Adr) : Sp := fun vs H Q _ => ∃ (av : Addr → Prop) (H0 : Hp) (x dx a : Addr) (o : Sy22.Obj) (d : List Nat), vs = [.ref x, .ref a] ∧ Pre K ad av H0 H x dx o ∧ SqL K H0 a (nv d) ∧ Bytes d ∧ szO o + d.length ≤ 3000 ∧ Post K ad av H0 x dx (Sy22.goes o (.add d)) Q
abbrev s_Pieces_go_on_sum : Stmt := inClass (top 38) 6
theorem sc_Pieces_go_on_sum : FnScope ["self", "data"] ["self", "data"] (defScope s_Pieces_go_on_sum) := ⟨rfl, rfl, rfl, by decide +kernel, rfl, by decide +kernel, by decide +kernel⟩
theorem ok_Pieces_go_on_sum {f : Addr} {fd : FuncData} (F : Fun K "go_on_sum" "Pieces.go_on_sum" s_Pieces_go_on_sum f fd) (T : Txt K mg ad) (C_Summing_add : Method P w K mg base 6 ad.Summing "add" ["self", "data"] (sp_Summing_add K ad)) : FnOk P w K mg base CX0 7 f fd ["self", "data"] (sp_Pieces_go_on_sum K ad) := by
  refine F.ok sc_Pieces_go_on_sum (fun vs H Q E h => ?_) (fun cdv A outer s H vs Q E hr h => ?_)
  · obtain ⟨av, H0, x, dx, a, o, d, rfl, _⟩ := h; rfl
  obtain ⟨av, H0, x, dx, a, o, d, rfl, ⟨hav, nax, v1, v2, inner, L, hI⟩, ha, db, hz, k⟩ := h
  refine ⟨_, (pss_cons (ps_if (pt_cmpR op_isN (pe_fld (pv 0) rfl) pe_non (nomark _)) (pss_one (ps_ret (pe_lst (pa_cons (pe_un un_neg pe_int) pa_nil)))) pss_nil)
      (pss_cons (ps_expr (pe_me T.c_Summing C_Summing_add (hr.mono (by decide)) (pe_fld (pv 0) rfl) (pa_cons (pv 1) pa_nil)))
      (pss_one (ps_ret (pe_lst (pa_cons pe_int pa_nil)))))), ?_⟩
  have cC := T.c_Pieces
  have n_sealing := T.n_Pieces_sealing
  have n_summing := T.n_Pieces_summing
  have hx := L.get 0 rfl
  cases o with
  | none =>
    obtain ⟨rfl, rfl, rfl⟩ := id hI
    walk_at "init"
    refine ⟨rfl, ?_⟩
    walk_at "go"
    refine ite_tt ?_
    walk_at "go"
    refine r_new (Loc.start H) (by show 1 ≤ sizeLine; decide) fun p H1 M1 => ?_
    exact k p H1 _ _ _ (L.calls M1) (hI.mono (res_same M1.same))
  | sealing key nonce op w begun c =>
    obtain ⟨y, oy, str, rfl, rfl, rfl, _⟩ := id hI
    walk_at "init"
    refine ⟨rfl, ?_⟩
    walk_at "go"
    refine ite_tt ?_
    walk_at "go"
    refine r_new (Loc.start H) (by show 1 ≤ sizeLine; decide) fun p H1 M1 => ?_
    exact k p H1 _ _ _ (L.calls M1) (hI.mono (res_same M1.same))
  | summing kind b =>
    obtain ⟨y, oy, rfl, rfl, rfl, hS, hk, hb, hl⟩ := id hI
    obtain ⟨dy, s1, t1, rfl, h1, h2⟩ := id hS
    have hy := L.get 1 rfl
    have hz : b.length + d.length ≤ 3000 := hz
    walk_at "init"
    refine ⟨rfl, ?_⟩
    walk_at "go"
    refine ite_ff ?_
    walk_at "go"
    refine use_Summing_add (d := d) L 1 rfl hav hS (L.argE 1 rfl ha) hk hb db (by omega) fun H1 o1 ms L1 _ hS1 => ?_
    have L1 : Loc H0 H1 [(x, .ins ad.Pieces dx (fs_Pieces .non (.ref y))), (y, o1)] := L1.take 2
    walk_at "go"
    refine r_new (Loc.start H1) (by show 1 ≤ sizeLine; decide) fun p H2 M2 => ?_
    exact k p H2 _ _ [(y, o1)] (L1.calls M2) ⟨y, o1, rfl, rfl, rfl, hS1.mono (same_er (res_same M2.same) y), hk, hb.app db, by rw [List.length_append]; exact hz⟩
/-! told -/
def sp_Pieces_tell_sum (K : PySem.W.Frag) (ad : Adr) : Sp := fun vs H Q _ => ∃ (av : Addr → Prop) (H0 : Hp) (x dx : Addr) (o : Sy22.Obj), vs = [.ref x] ∧ Pre K ad av H0 H x dx o ∧ Post K ad av H0 x dx (Sy22.goes o .told) Q
abbrev s_Pieces_tell_sum : Stmt := inClass (top 38) 7
theorem sc_Pieces_tell_sum : FnScope ["self", "told"] ["self"] (defScope s_Pieces_tell_sum) := ⟨rfl, rfl, rfl, by decide +kernel, rfl, by decide +kernel, by decide +kernel⟩
theorem ok_Pieces_tell_sum {f : Addr} {fd : FuncData} (F : Fun K "tell_sum" "Pieces.tell_sum" s_Pieces_tell_sum f fd) (T : Txt K mg ad) (C_Summing_told : Method P w K mg base 6 ad.Summing "told" ["self"] (sp_Summing_told K ad)) : FnOk P w K mg base CX0 7 f fd ["self"] (sp_Pieces_tell_sum K ad) := by
  refine F.ok sc_Pieces_tell_sum (fun vs H Q E h => ?_) (fun cdv A outer s H vs Q E hr h => ?_)
  · obtain ⟨av, H0, x, dx, o, rfl, _⟩ := h; rfl
  obtain ⟨av, H0, x, dx, o, rfl, ⟨hav, nax, v1, v2, inner, L, hI⟩, k⟩ := h
  refine ⟨_, (pss_cons (ps_if (pt_cmpR op_isN (pe_fld (pv 0) rfl) pe_non (nomark _)) (pss_one (ps_ret (pe_lst (pa_cons (pe_un un_neg pe_int) pa_nil)))) pss_nil)
      (pss_cons (ps_set (i := 1) sc_Pieces_tell_sum.nd rfl (Or.inl rfl) (pe_me0 T.c_Summing C_Summing_told (hr.mono (by decide)) (pe_fld (pv 0) rfl)))
      (pss_one (ps_ret (pe_op (op_catK (K := K) rfl) (pe_lst (pa_cons (pe_callB (c_lenK (K := K) rfl) (by rfl) T.n_len b_len (pa_cons (pv 1) pa_nil)) pa_nil)) (pv 1)))))), ?_⟩
  have cC := T.c_Pieces
  have n_sealing := T.n_Pieces_sealing
  have n_summing := T.n_Pieces_summing
  have hx := L.get 0 rfl
  cases o with
  | none =>
    obtain ⟨rfl, rfl, rfl⟩ := id hI
    walk_at "init"
    refine ⟨rfl, ?_⟩
    walk_at "go"
    refine ite_tt ?_
    walk_at "go"
    refine r_new (Loc.start H) (by show 1 ≤ sizeLine; decide) fun p H1 M1 => ?_
    exact k p H1 _ _ _ (L.calls M1) (hI.mono (res_same M1.same))
  | sealing key nonce op w begun c =>
    obtain ⟨y, oy, str, rfl, rfl, rfl, _⟩ := id hI
    walk_at "init"
    refine ⟨rfl, ?_⟩
    walk_at "go"
    refine ite_tt ?_
    walk_at "go"
    refine r_new (Loc.start H) (by show 1 ≤ sizeLine; decide) fun p H1 M1 => ?_
    exact k p H1 _ _ _ (L.calls M1) (hI.mono (res_same M1.same))
  | summing kind b =>
    obtain ⟨y, oy, rfl, rfl, rfl, hS, hk, hb, hl⟩ := id hI
    obtain ⟨dy, s1, t1, rfl, h1, h2⟩ := id hS
    have hy := L.get 1 rfl
    have sl := sum_len hk b
    have sz : size kind ≤ 8 := by rcases hk with rfl | rfl <;> decide
    walk_at "init"
    refine ⟨rfl, ?_⟩
    walk_at "go"
    refine ite_ff ?_
    walk_at "go"
    refine ⟨y, kind, b, _, rfl, hy, hS.up, hk, hb, by omega, fun p1 H1 M1 => ?_⟩
    walk_at "go"
    refine r_new M1 (by show 1 ≤ sizeLine; decide) fun p2 H2 M2 => ?_
    walk_at "go"
    refine r_cat2 (xs := [(Sy22.sum kind b).length]) M2 (M2.lst 1 rfl) (M2.lst 0 rfl) (by rw [sl, sizeLine_eq, List.length_singleton]; omega) fun p3 H3 M3 => ?_
    have L3 := L.calls (M3.pick 2 rfl)
    rw [nv_row] at L3
    exact k p3 H3 _ _ _ L3 (hI.mono (res_same M3.same))
end
end
section
local macro_rules | `(tactic| walk_at "lk") => `(tactic| first | exact get_Pieces_sealing | exact get_Pieces_summing | exact no_Pieces_begin | exact no_Pieces_go_with | exact no_Pieces_more | exact no_Pieces_end | exact no_Pieces_begin_sum | exact no_Pieces_go_on_sum | exact no_Pieces_tell_sum | exact no_Pieces_take | rfl)
local macro_rules | `(tactic| walk_at "put") => `(tactic| ((walk_at "go"); (walk_at "fp"); (intro H' L'); (simp only [put_Pieces_sealing, put_Pieces_summing, List.set_cons_zero, List.set_cons_succ] at L'); (try walk_at "go")))
section
variable {P : Program} {w : World} {K : PySem.W.Frag} {mg : Str → Option Value} {base : Heap} {ad : Adr}
/-! take -/
/-- a call in numbers that aren't below 0: what it is, and what is asked of its bytes -/
inductive Asks : List Nat → Sy22.Piece → Prop
  | begin_ (n b : Nat) (r : List Nat) (hb : Bytes r) (hl : r.length = if n = 16 ∨ n = 24 ∨ n = 32 then n + 12 else 0) : Asks (0 :: n :: b :: r) (.begin_ n b (r.take (if n = 16 ∨ n = 24 ∨ n = 32 then n else 0)) (r.drop (if n = 16 ∨ n = 24 ∨ n = 32 then n else 0)))
  | with_ (r : List Nat) (hb : Bytes r) : Asks (1 :: r) (.with_ r)
  | more (r : List Nat) (hb : Bytes r) : Asks (2 :: r) (.more r)
  | end_ : Asks [3] .end_
  | sum (n : Nat) : Asks [4, n] (.sum n)
  | add (r : List Nat) (hb : Bytes r) : Asks (5 :: r) (.add r)
  | told : Asks [6] .told
def sp_Pieces_take (K : PySem.W.Frag) (ad : Adr) : Sp := fun vs H Q _ => ∃ (av : Addr → Prop) (H0 : Hp) (x dx a : Addr) (o : Sy22.Obj) (c : List Nat) (pc : Sy22.Piece), vs = [.ref x, .ref a] ∧ Pre K ad av H0 H x dx o ∧ SqL K H0 a (nv c) ∧ Asks c pc ∧ szO o + c.length ≤ 3000 ∧ Post K ad av H0 x dx (Sy22.goes o pc) Q
abbrev s_Pieces_take : Stmt := inClass (top 38) 8
theorem sc_Pieces_take : FnScope ["self", "call", "which"] ["self", "call"] (defScope s_Pieces_take) := ⟨rfl, rfl, rfl, by decide +kernel, rfl, by decide +kernel, by decide +kernel⟩
theorem Post.of {H0 H : Hp} {x dx : Addr} {ls ms : List (Addr × HO)} {r : Sy22.Obj × Sy22.Ans} {Q : VK} {av : Addr → Prop} (L : Loc H0 H (ls ++ ms)) (k : Post K ad av H0 x dx r Q) : Post K ad av (erL H ls) x dx r Q := fun p H' v1 v2 inner M hI => by
  refine k p H' v1 v2 inner ((L.merge M).sub ?_) hI
  exact List.Sublist.append (List.sublist_append_left _ _) (List.Sublist.refl _)
theorem Pre.of {H0 H1 : Hp} {x dx : Addr} {o : Sy22.Obj} {v1 v2 : V} {inner ms : List (Addr × HO)} {av : Addr → Prop} (hav : ∀ b, av b → H1 b ≠ none) (nax : ¬ av x) (L : Loc H0 H1 (((x, .ins ad.Pieces dx (fs_Pieces v1 v2)) :: inner) ++ ms)) (hI : InAt K ad (res H1 av) v1 v2 inner o) : Pre K ad av (erL H1 ((x, .ins ad.Pieces dx (fs_Pieces v1 v2)) :: inner)) H1 x dx o := ⟨hav, nax, v1, v2, inner, L.split, hI⟩
theorem ok_Pieces_take {f : Addr} {fd : FuncData} (F : Fun K "take" "Pieces.take" s_Pieces_take f fd) (T : Txt K mg ad) (C_Pieces_begin : Method P w K mg base 6 ad.Pieces "begin" ["self", "length", "back", "rest"] (sp_Pieces_begin K ad)) (C_Pieces_go_with : Method P w K mg base 4 ad.Pieces "go_with" ["self", "data"] (sp_Pieces_go_with K ad)) (C_Pieces_more : Method P w K mg base 7 ad.Pieces "more" ["self", "data"] (sp_Pieces_more K ad)) (C_Pieces_end : Method P w K mg base 6 ad.Pieces "end" ["self"] (sp_Pieces_end K ad)) (C_Pieces_begin_sum : Method P w K mg base 3 ad.Pieces "begin_sum" ["self", "kind"] (sp_Pieces_begin_sum K ad)) (C_Pieces_go_on_sum : Method P w K mg base 7 ad.Pieces "go_on_sum" ["self", "data"] (sp_Pieces_go_on_sum K ad)) (C_Pieces_tell_sum : Method P w K mg base 7 ad.Pieces "tell_sum" ["self"] (sp_Pieces_tell_sum K ad)) : FnOk P w K mg base CX0 8 f fd ["self", "call"] (sp_Pieces_take K ad) := by
  refine F.ok sc_Pieces_take (fun vs H Q E h => ?_) (fun cdv A outer s H vs Q E hr h => ?_)
  · obtain ⟨av, H0, x, dx, a, o, c, pc, rfl, _⟩ := h; rfl
  obtain ⟨av, H0, x, dx, a, o, c, pc, rfl, ⟨hav, nax, v1, v2, inner, L, hI⟩, ha, hA, hz, k⟩ := h
  refine ⟨_, (pss_cons (ps_set (i := 2) sc_Pieces_take.nd rfl (Or.inl rfl) (pe_ix (ix_listK (K := K) rfl) (pv 1) pe_int (fun _ _ => rfl)))
      (pss_cons (ps_if (pt_cmpR op_eq (pv 2) pe_int (nomark _)) (pss_one (ps_ret (pe_me T.c_Pieces C_Pieces_begin (hr.mono (by decide)) (pv 0) (pa_cons (pe_ix (ix_listK (K := K) rfl) (pv 1) pe_int (fun _ _ => rfl)) (pa_cons (pe_ix (ix_listK (K := K) rfl) (pv 1) pe_int (fun _ _ => rfl)) (pa_cons (pe_slice (sl_listK (K := K) rfl) (pv 1) (po_some pe_int) po_none) pa_nil)))))) pss_nil)
      (pss_cons (ps_if (pt_cmpR op_eq (pv 2) pe_int (nomark _)) (pss_one (ps_ret (pe_me T.c_Pieces C_Pieces_go_with (hr.mono (by decide)) (pv 0) (pa_cons (pe_slice (sl_listK (K := K) rfl) (pv 1) (po_some pe_int) po_none) pa_nil)))) pss_nil)
      (pss_cons (ps_if (pt_cmpR op_eq (pv 2) pe_int (nomark _)) (pss_one (ps_ret (pe_me T.c_Pieces C_Pieces_more (hr.mono (by decide)) (pv 0) (pa_cons (pe_slice (sl_listK (K := K) rfl) (pv 1) (po_some pe_int) po_none) pa_nil)))) pss_nil)
      (pss_cons (ps_if (pt_cmpR op_eq (pv 2) pe_int (nomark _)) (pss_one (ps_ret (pe_me0 T.c_Pieces C_Pieces_end (hr.mono (by decide)) (pv 0)))) pss_nil)
      (pss_cons (ps_if (pt_cmpR op_eq (pv 2) pe_int (nomark _)) (pss_one (ps_ret (pe_me T.c_Pieces C_Pieces_begin_sum (hr.mono (by decide)) (pv 0) (pa_cons (pe_ix (ix_listK (K := K) rfl) (pv 1) pe_int (fun _ _ => rfl)) pa_nil)))) pss_nil)
      (pss_cons (ps_if (pt_cmpR op_eq (pv 2) pe_int (nomark _)) (pss_one (ps_ret (pe_me T.c_Pieces C_Pieces_go_on_sum (hr.mono (by decide)) (pv 0) (pa_cons (pe_slice (sl_listK (K := K) rfl) (pv 1) (po_some pe_int) po_none) pa_nil)))) pss_nil)
      (pss_one (ps_ret (pe_me0 T.c_Pieces C_Pieces_tell_sum (hr.mono (by decide)) (pv 0))))))))))), ?_⟩
  have cC := T.c_Pieces
  have n_sealing := T.n_Pieces_sealing
  have n_summing := T.n_Pieces_summing
  have hx := L.get 0 rfl
  have hs := L.arg ha
  cases hA with
  | begin_ n b r hb hl =>
    have cl : (0 :: n :: b :: r).length = r.length + 3 := rfl
    walk_at "init"
    refine ite_tt ?_
    walk_at "go"
    refine r_slice (Loc.start H) hs fun p H1 M1 => ?_
    rw [nv_cutFrom (by decide) (by rw [cl]; omega)] at M1
    have L1 := L.calls M1
    walk_at "go"
    exact ⟨av, erL H1 ((x, .ins ad.Pieces dx (fs_Pieces v1 v2)) :: inner), x, dx, p, o, n, b, r, rfl, Pre.of (avSame hav M1.same) nax L1 (hI.mono (res_same M1.same)), SqL.of (L1.splitM (List.mem_singleton.mpr rfl)), hb, hl, k.of L1⟩
  | with_ r hb =>
    have cl : (1 :: r).length = r.length + 1 := rfl
    walk_at "init"
    refine ite_ff ?_
    walk_at "go"
    refine ite_tt ?_
    walk_at "go"
    refine r_slice (Loc.start H) hs fun p H1 M1 => ?_
    rw [nv_cutFrom (by decide) (by rw [cl]; omega)] at M1
    have L1 := L.calls M1
    walk_at "go"
    exact ⟨av, erL H1 ((x, .ins ad.Pieces dx (fs_Pieces v1 v2)) :: inner), x, dx, p, o, r, rfl, Pre.of (avSame hav M1.same) nax L1 (hI.mono (res_same M1.same)), SqL.of (L1.splitM (List.mem_singleton.mpr rfl)), hb, by rw [cl] at hz; omega, k.of L1⟩
  | more r hb =>
    have cl : (2 :: r).length = r.length + 1 := rfl
    walk_at "init"
    refine ite_ff ?_
    walk_at "go"
    refine ite_ff ?_
    walk_at "go"
    refine ite_tt ?_
    walk_at "go"
    refine r_slice (Loc.start H) hs fun p H1 M1 => ?_
    rw [nv_cutFrom (by decide) (by rw [cl]; omega)] at M1
    have L1 := L.calls M1
    walk_at "go"
    exact ⟨av, erL H1 ((x, .ins ad.Pieces dx (fs_Pieces v1 v2)) :: inner), x, dx, p, o, r, rfl, Pre.of (avSame hav M1.same) nax L1 (hI.mono (res_same M1.same)), SqL.of (L1.splitM (List.mem_singleton.mpr rfl)), hb, by rw [cl] at hz; omega, k.of L1⟩
  | end_ =>
    walk_at "init"
    refine ite_ff ?_
    walk_at "go"
    refine ite_ff ?_
    walk_at "go"
    refine ite_ff ?_
    walk_at "go"
    refine ite_tt ?_
    walk_at "go"
    exact ⟨av, H0, x, dx, o, rfl, ⟨hav, nax, v1, v2, inner, L, hI⟩, k⟩
  | sum n =>
    walk_at "init"
    refine ite_ff ?_
    walk_at "go"
    refine ite_ff ?_
    walk_at "go"
    refine ite_ff ?_
    walk_at "go"
    refine ite_ff ?_
    walk_at "go"
    refine ite_tt ?_
    walk_at "go"
    exact ⟨av, H0, x, dx, o, n, rfl, ⟨hav, nax, v1, v2, inner, L, hI⟩, k⟩
  | add r hb =>
    have cl : (5 :: r).length = r.length + 1 := rfl
    walk_at "init"
    refine ite_ff ?_
    walk_at "go"
    refine ite_ff ?_
    walk_at "go"
    refine ite_ff ?_
    walk_at "go"
    refine ite_ff ?_
    walk_at "go"
    refine ite_ff ?_
    walk_at "go"
    refine ite_tt ?_
    walk_at "go"
    refine r_slice (Loc.start H) hs fun p H1 M1 => ?_
    rw [nv_cutFrom (by decide) (by rw [cl]; omega)] at M1
    have L1 := L.calls M1
    walk_at "go"
    exact ⟨av, erL H1 ((x, .ins ad.Pieces dx (fs_Pieces v1 v2)) :: inner), x, dx, p, o, r, rfl, Pre.of (avSame hav M1.same) nax L1 (hI.mono (res_same M1.same)), SqL.of (L1.splitM (List.mem_singleton.mpr rfl)), hb, by rw [cl] at hz; omega, k.of L1⟩
  | told =>
    walk_at "init"
    refine ite_ff ?_
    walk_at "go"
    refine ite_ff ?_
    walk_at "go"
    refine ite_ff ?_
    walk_at "go"
    refine ite_ff ?_
    walk_at "go"
    refine ite_ff ?_
    walk_at "go"
    refine ite_ff ?_
    walk_at "go"
    exact ⟨av, H0, x, dx, o, rfl, ⟨hav, nax, v1, v2, inner, L, hI⟩, k⟩
end
end
section
local macro_rules | `(tactic| walk_at "lk") => `(tactic| first | exact get_Pieces_sealing | exact get_Pieces_summing | exact no_Pieces_begin | exact no_Pieces_go_with | exact no_Pieces_more | exact no_Pieces_end | exact no_Pieces_begin_sum | exact no_Pieces_go_on_sum | exact no_Pieces_tell_sum | exact no_Pieces_take | rfl)
local macro_rules | `(tactic| walk_at "put") => `(tactic| ((walk_at "go"); (walk_at "fp"); (intro H' L'); (simp only [put_Pieces_sealing, put_Pieces_summing, List.set_cons_zero, List.set_cons_succ] at L'); (try walk_at "go")))
section
variable {P : Program} {w : World} {K : PySem.W.Frag} {mg : Str → Option Value} {base : Heap} {ad : Adr}
theorem nats_nv {l : List Int} (h : ∀ x ∈ l, 0 ≤ x ∧ x ≤ 255) : iv l = nv (Sy22Neutral.nats l) := by rw [nv_iv, nats_back h]
theorem take_nats (l : List Int) (n : Nat) : Sy22Neutral.nats (l.take n) = (Sy22Neutral.nats l).take n := by unfold Sy22Neutral.nats; rw [List.map_take]
theorem drop_nats (l : List Int) (n : Nat) : Sy22Neutral.nats (l.drop n) = (Sy22Neutral.nats l).drop n := by unfold Sy22Neutral.nats; rw [List.map_drop]
/-- a call that may be asked, in numbers that aren't below 0 -/
theorem asks_of {c : List Int} (h : Sy22Neutral.pieceAsked c = true) : ∃ cs pc, iv c = nv cs ∧ Sy22Neutral.pieceOf c = some pc ∧ Asks cs pc ∧ cs.length = c.length := by
  unfold Sy22Neutral.pieceAsked at h
  split at h
  · rename_i n b r
    simp only [Bool.and_eq_true] at h
    obtain ⟨h1, h2, h3⟩ := h
    have w1 := word_of h1
    have w2 := word_of h2
    obtain ⟨hb, hl⟩ := just_of h3
    obtain ⟨n, rfl⟩ : ∃ x : Nat, n = (x : Int) := ⟨n.toNat, by omega⟩
    obtain ⟨b, rfl⟩ : ∃ x : Nat, b = (x : Int) := ⟨b.toNat, by omega⟩
    have ks : Sy22Neutral.keySize (n : Int) = if n = 16 ∨ n = 24 ∨ n = 32 then n else 0 := by
      unfold Sy22Neutral.keySize
      by_cases hn : n = 16 ∨ n = 24 ∨ n = 32
      · rw [if_pos hn, if_pos (by omega)]; rfl
      · rw [if_neg hn, if_neg (by omega)]
    refine ⟨0 :: n :: b :: Sy22Neutral.nats r, .begin_ n b ((Sy22Neutral.nats r).take (if n = 16 ∨ n = 24 ∨ n = 32 then n else 0)) ((Sy22Neutral.nats r).drop (if n = 16 ∨ n = 24 ∨ n = 32 then n else 0)), ?_, ?_, .begin_ n b _ (nats_bytes hb) ?_, ?_⟩
    · show V.int 0 :: V.int (n : Int) :: V.int (b : Int) :: iv r = _
      rw [nats_nv hb]
      rfl
    · show some (Sy22.Piece.begin_ (n : Int).toNat (b : Int).toNat (Sy22Neutral.nats (r.take (Sy22Neutral.keySize (n : Int)))) (Sy22Neutral.nats (r.drop (Sy22Neutral.keySize (n : Int))))) = _
      rw [ks, take_nats, drop_nats, Int.toNat_natCast, Int.toNat_natCast]
    · rw [nats_len, hl, ks]
      by_cases hn : n = 16 ∨ n = 24 ∨ n = 32
      · rw [if_pos hn, if_pos hn, if_neg (by omega)]
      · rw [if_neg hn, if_neg hn, if_pos rfl]
    · simp [nats_len]
  · rename_i r
    obtain ⟨hb, hl⟩ := some_of h
    exact ⟨1 :: Sy22Neutral.nats r, .with_ (Sy22Neutral.nats r), by show V.int 1 :: iv r = _; rw [nats_nv hb]; rfl, rfl, .with_ _ (nats_bytes hb), by simp [nats_len]⟩
  · rename_i r
    obtain ⟨hb, hl⟩ := some_of h
    exact ⟨2 :: Sy22Neutral.nats r, .more (Sy22Neutral.nats r), by show V.int 2 :: iv r = _; rw [nats_nv hb]; rfl, rfl, .more _ (nats_bytes hb), by simp [nats_len]⟩
  · exact ⟨[3], .end_, rfl, rfl, .end_, rfl⟩
  · rename_i n
    have w1 := word_of h
    obtain ⟨n, rfl⟩ : ∃ x : Nat, n = (x : Int) := ⟨n.toNat, by omega⟩
    exact ⟨[4, n], .sum n, rfl, rfl, .sum n, rfl⟩
  · rename_i r
    obtain ⟨hb, hl⟩ := some_of h
    exact ⟨5 :: Sy22Neutral.nats r, .add (Sy22Neutral.nats r), by show V.int 5 :: iv r = _; rw [nats_nv hb]; rfl, rfl, .add _ (nats_bytes hb), by simp [nats_len]⟩
  · exact ⟨[6], .told, rfl, rfl, .told, rfl⟩
  · cases h
theorem szO_goes {o : Sy22.Obj} {cs : List Nat} {pc : Sy22.Piece} (h : Asks cs pc) : szO (Sy22.goes o pc).1 ≤ szO o + cs.length := by
  cases h with
  | begin_ n b r hb hl =>
    show szO (if Sy22.lengthOk n = false then _ else _ : Sy22.Obj × Sy22.Ans).1 ≤ _
    split
    · exact Nat.le_add_right _ _
    · exact Nat.zero_le _
  | with_ r hb =>
    cases o with
    | none => exact Nat.zero_le _
    | summing kind b => exact Nat.le_add_right _ _
    | sealing key nonce op w begun c =>
      cases begun with
      | true => exact Nat.le_add_right _ _
      | false =>
        show (w ++ r).length + c.length ≤ w.length + c.length + (1 :: r).length
        rw [List.length_append, List.length_cons]
        omega
  | more r hb =>
    cases o with
    | none => exact Nat.zero_le _
    | summing kind b => exact Nat.le_add_right _ _
    | sealing key nonce op w begun c =>
      show w.length + (c ++ if op = true then r else Sy22.xor r _).length ≤ w.length + c.length + (2 :: r).length
      rw [List.length_append, List.length_cons]
      split
      · omega
      · rw [xor_len]; omega
  | end_ =>
    cases o with
    | none => exact Nat.zero_le _
    | summing kind b => exact Nat.le_add_right _ _
    | sealing key nonce op w begun c => exact Nat.zero_le _
  | sum n =>
    show szO (if n = 1 ∨ n = 2 then _ else _ : Sy22.Obj × Sy22.Ans).1 ≤ _
    split
    · exact Nat.zero_le _
    · exact Nat.le_add_right _ _
  | add r hb =>
    cases o with
    | none => exact Nat.zero_le _
    | sealing key nonce op w begun c => exact Nat.le_add_right _ _
    | summing kind b =>
      show (b ++ r).length ≤ b.length + (5 :: r).length
      rw [List.length_append, List.length_cons]
      omega
  | told => exact Nat.le_add_right _ _
theorem row_len {o : Sy22.Obj} {cs : List Nat} {pc : Sy22.Piece} (h : Asks cs pc) (hl : cs.length ≤ 3000) : (Sy22Neutral.oneRow (Sy22.goes o pc).2).length ≤ 5000 := by
  unfold Sy22Neutral.oneRow Sy22Neutral.ints
  rw [List.length_cons, List.length_map]
  have one : 0 + 1 ≤ 5000 := by decide
  cases h with
  | begin_ n b r hb hl' =>
    show (if Sy22.lengthOk n = false then _ else _ : Sy22.Obj × Sy22.Ans).2.rows.flatten.length + 1 ≤ _
    split <;> exact one
  | with_ r hb =>
    cases o with
    | none => exact one
    | summing kind b => exact one
    | sealing key nonce op w begun c => cases begun <;> exact one
  | more r hb =>
    cases o with
    | none => exact one
    | summing kind b => exact one
    | sealing key nonce op w begun c =>
      rw [List.length_cons] at hl
      show ([Sy22.xor r _] : List (List Nat)).flatten.length + 1 ≤ _
      rw [List.flatten_cons, List.flatten_nil, List.append_nil, xor_len]
      omega
  | end_ =>
    cases o with
    | none => exact one
    | summing kind b => exact one
    | sealing key nonce op w begun c =>
      show ([Sy22.tag key nonce w c] : List (List Nat)).flatten.length + 1 ≤ _
      rw [List.flatten_cons, List.flatten_nil, List.append_nil]
      unfold Sy22.tag
      rw [xor_len, big_len]
      omega
  | sum n =>
    show (if n = 1 ∨ n = 2 then _ else _ : Sy22.Obj × Sy22.Ans).2.rows.flatten.length + 1 ≤ _
    split <;> exact one
  | add r hb =>
    cases o with
    | none => exact one
    | sealing key nonce op w begun c => exact one
    | summing kind b => exact one
  | told =>
    cases o with
    | none => exact one
    | sealing key nonce op w begun c => exact one
    | summing kind b =>
      show ([Sy22.sum kind b] : List (List Nat)).flatten.length + 1 ≤ _
      rw [List.flatten_cons, List.flatten_nil, List.append_nil]
      unfold Sy22.sum
      split
      · rw [show Sy22.sum1 b = Sy22.sum 1 b from rfl, sum_len (.inl rfl)]; decide
      · rw [show Sy22.sum2 b = Sy22.sum 2 b from rfl, sum_len (.inr rfl)]; decide
theorem pieces_cons {c : List Int} {pc : Sy22.Piece} (o : Sy22.Obj) (r : List (List Int)) (h : Sy22Neutral.pieceOf c = some pc) : Sy22Neutral.pieces o (c :: r) = Sy22Neutral.oneRow (Sy22.goes o pc).2 :: Sy22Neutral.pieces (Sy22.goes o pc).1 r := by
  rw [Sy22Neutral.pieces, h]
def rowI (as : List Addr) (rows : List (List Int)) : List (Addr × HO) := List.zipWith (fun a r => (a, HO.lst (iv r))) as rows
theorem rowI_snoc {as : List Addr} {rows : List (List Int)} {a : Addr} {r : List Int} (h : as.length = rows.length) : rowI (as ++ [a]) (rows ++ [r]) = rowI as rows ++ [(a, .lst (iv r))] := by
  unfold rowI
  rw [List.zipWith_append h]
  rfl
theorem set_mid {α : Type} (A B : List α) (d d' : α) : (A ++ d :: B).set A.length d' = A ++ d' :: B := by simp
theorem get_mid {α : Type} (A B : List α) (d : α) : (A ++ d :: B)[A.length]? = some d := by simp
theorem dw_lists {K : PySem.W.Frag} {H : Hp} : ∀ (cs : List (List Int)) (xs : List V), DwAll K H xs (cs.map fun c => PySem.W.WData.list (c.map PySem.W.WData.int)) → ∃ as : List Addr, xs = refs as ∧ as.length = cs.length ∧ ∀ (i : Nat) (x : Addr) (c : List Int), as[i]? = some x → cs[i]? = some c → SqL K H x (iv c)
  | [], xs, h => by
    cases h
    exact ⟨[], rfl, rfl, fun i x c h1 => by simp at h1⟩
  | c :: cs, xs, h => by
    cases h with
    | cons h1 h2 =>
      obtain ⟨as, rfl, hl, hc⟩ := dw_lists cs _ h2
      cases h1 with
      | lst hs ha =>
        have e := ints_dw c _ ha
        subst e
        rename_i a
        refine ⟨a :: as, rfl, by simp [hl], fun i x d h3 h4 => ?_⟩
        cases i with
        | zero =>
          have e1 : a = x := Option.some.inj h3
          have e2 : c = d := Option.some.inj h4
          subst e1 e2
          exact hs
        | succ i => exact hc i x d h3 h4
def sp_pieces (K : PySem.W.Frag) : Sp := fun vs H Q _ => ∃ (a : Addr) (as : List Addr) (calls : List (List Int)), vs = [.ref a] ∧ SqL K H a (refs as) ∧ as.length = calls.length ∧ (∀ (i : Nat) (x : Addr) (c : List Int), as[i]? = some x → calls[i]? = some c → SqL K H x (iv c)) ∧ PySy22.pieces_asked calls = true ∧ ∀ p H', Loc H H' [(p, .lst (iv (PySy22.pieces calls)))] → Q (.ref p) H'
abbrev s_pieces : Stmt := top 41
theorem sc_pieces : FnScope ["calls", "under_way", "call"] ["calls"] (defScope s_pieces) := ⟨rfl, rfl, rfl, by decide +kernel, rfl, by decide +kernel, by decide +kernel⟩
theorem ok_pieces {f : Addr} {fd : FuncData} (F : Fun K "pieces" "pieces" s_pieces f fd) (T : Txt K mg ad) (C_Pieces_init : Maker P w K mg base 1 ad.Pieces ["self"] (sp_Pieces_init K ad)) (C_Pieces_take : Method P w K mg base 8 ad.Pieces "take" ["self", "call"] (sp_Pieces_take K ad)) (C_lay_out : Callee P w K mg base 1 "lay_out" ["rows"] (sp_lay_out K)) : FnOk P w K mg base CX0 9 f fd ["calls"] (sp_pieces K) := by
  refine F.ok sc_pieces (fun vs H Q E h => ?_) (fun cdv A outer s H vs Q E hr h => ?_)
  · obtain ⟨a, as, calls, rfl, _⟩ := h; rfl
  obtain ⟨a, as, calls, rfl, hs, hal, hc, hask, k⟩ := h
  have hask : (calls.all Sy22Neutral.pieceAsked && (decide (calls.length ≤ 40) && decide (calls.flatten.length ≤ 2000))) = true := hask
  simp only [Bool.and_eq_true, decide_eq_true_iff, List.all_eq_true] at hask
  obtain ⟨hA, hn, hf⟩ := hask
  have ek : PySy22.pieces calls = laid (Sy22Neutral.pieces .none calls) := rfl
  rw [ek] at k
  refine ⟨_, (pss_cons (ps_set (i := 1) sc_pieces.nd rfl (Or.inr rfl) (pe_mk0 T.k_Pieces C_Pieces_init (hr.mono (by decide)) rfl))
      (pss_one (ps_ret (pe_fn C_lay_out (hr.mono (by decide)) rfl (pa_cons (pe_lc rfl sc_pieces.nd (pi_list (pv 0)) (blkOk_by (own := [("call", 2)]) (by show blkC ["calls", "under_way", "call"] (defScope s_pieces) _ _ = true; decide +kernel)) (fun _ _ _ _ _ => pg_name (i := 2) sc_pieces.nd rfl (Or.inl rfl)) (fun _ _ _ _ _ => pts_nil) (fun _ _ _ _ _ => (pe_me T.c_Pieces C_Pieces_take (hr.mono (by decide)) (pv 1) (pa_cons (pv 2) pa_nil)))) pa_nil))))), ?_⟩
  have cC := T.c_Pieces
  have n_sealing := T.n_Pieces_sealing
  have n_summing := T.n_Pieces_summing
  have L0 := Loc.start H
  walk_at "init"
  refine r_newI L0 fun x dx H1 L1 => ?_
  refine ⟨x, dx, rfl, L1.get 1 rfl, fun H2 M2 => ⟨rfl, ?_⟩⟩
  have L2 := (L1.meth 1 rfl M2).pick 1 rfl
  have hs2 := L2.arg hs
  walk_at "go"
  intro D hD
  refine ⟨fun i m H' => m = calls.length - i ∧ i ≤ calls.length ∧ ∃ (bs : List Addr) (v1 v2 : V) (inner : List (Addr × HO)) (o : Sy22.Obj) (rows : List (List Int)), bs.length = i ∧ rows.length = i ∧ Loc H H' (((x, .ins ad.Pieces dx (fs_Pieces v1 v2)) :: inner) ++ ((D, .lst (refs bs)) :: rowI bs rows)) ∧ InAt K ad (res H' (fun b => b = D)) v1 v2 inner o ∧ Sy22Neutral.pieces .none calls = rows ++ Sy22Neutral.pieces o (calls.drop i) ∧ szO o ≤ (calls.take i).flatten.length ∧ (laid rows).length ≤ 6000 * i,
    ⟨_, rfl, Nat.zero_le _, [], .non, .non, [], .none, [], rfl, rfl, L2.new hD, ⟨rfl, rfl, rfl⟩, by simp, Nat.zero_le _, by simp [laid]⟩, ?_⟩
  rintro i m H3 ⟨rfl, hi, bs, v1, v2, inner, o, rows, hbl, hrl, L3, hI, hP, hz, hlz⟩
  have hs3 := L3.arg hs
  by_cases hlt : i < calls.length
  · obtain ⟨ai, hai⟩ : ∃ x, as[i]? = some x := ⟨as[i]'(by omega), List.getElem?_eq_getElem (by omega)⟩
    have hci : calls[i]? = some calls[i] := List.getElem?_eq_getElem hlt
    have hq := hc i ai calls[i] hai hci
    obtain ⟨cs, pc, e1, e2, e3, e4⟩ := asks_of (hA calls[i] (List.getElem_mem hlt))
    have et := take_snoc hci
    have fle : (calls.take (i + 1)).flatten.length ≤ 2000 := by
      have := congrArg (fun l => (List.flatten l).length) (List.take_append_drop (i + 1) calls)
      simp only [List.flatten_append, List.length_append] at this
      omega
    rw [et, List.flatten_append, List.length_append, List.flatten_cons, List.flatten_nil, List.append_nil, ← e4] at fle
    refine .inr ⟨⟨_, _, hs3, by unfold refs; rw [List.getElem?_map, hai]; rfl⟩, fun H' => ∃ (bs : List Addr) (v1 v2 : V) (inner : List (Addr × HO)) (o : Sy22.Obj) (rows : List (List Int)), bs.length = i + 1 ∧ rows.length = i + 1 ∧ Loc H H' (((x, .ins ad.Pieces dx (fs_Pieces v1 v2)) :: inner) ++ ((D, .lst (refs bs)) :: rowI bs rows)) ∧ InAt K ad (res H' (fun b => b = D)) v1 v2 inner o ∧ Sy22Neutral.pieces .none calls = rows ++ Sy22Neutral.pieces o (calls.drop (i + 1)) ∧ szO o ≤ (calls.take (i + 1)).flatten.length ∧ (laid rows).length ≤ 6000 * (i + 1),
      fun H' h => ⟨_, by omega, rfl, by omega, h⟩, ?_⟩
    rintro v H' ⟨eH, hv⟩
    have eH := eH.symm
    subst eH
    have hv := hv _ hs3
    unfold refs at hv
    rw [List.getElem?_map, hai] at hv
    have hv : v = V.ref ai := (Option.some.inj hv).symm
    subst hv
    refine ⟨wipe_self _ _ _, ?_⟩
    show tMeth ad.Pieces "take" (sp_Pieces_take K ad) [] E0 (tVar 1) (tCons (tVar 2) tNil) _ _ _
    have hx3 := L3.get 0 rfl
    walk_at "go"
    have hD3 := L3.get _ (get_mid _ _ _)
    refine ⟨fun b => b = D, erL H3 ((x, .ins ad.Pieces dx (fs_Pieces v1 v2)) :: inner), x, dx, ai, o, cs, pc, rfl, Pre.of (fun b hb => by rw [hb, hD3]; exact fun z => by cases z) (ne_of hx3 hD3 (by intro z; cases z)) L3 hI, ?_, e3, by omega, fun p H4 w1 w2 inn M4 hI4 => ?_⟩
    · rw [← e1]
      exact L3.splitS.seq hq
    · have L4 := L3.merge M4
      have rl5 := row_len (o := o) e3 (by omega)
      have so := szO_goes (o := o) e3
      have er : Sy22Neutral.oneRow (Sy22.goes o pc).2 = Sy22Neutral.oneRow (Sy22.goes o pc).2 := rfl
      generalize hrow : Sy22Neutral.oneRow (Sy22.goes o pc).2 = row at *
      have L4 : Loc H H4 (((x, HO.ins ad.Pieces dx (fs_Pieces w1 w2)) :: inn) ++ (D, HO.lst (refs bs)) :: (rowI bs rows ++ [(p, HO.lst (iv row))])) := by
        rw [List.append_assoc] at L4
        exact L4
      have hD4 := L4.get _ (get_mid _ _ _)
      refine ⟨_, hD4, by rw [refs_len, sizeLine_eq]; omega, bs ++ [p], w1, w2, inn, (Sy22.goes o pc).1, rows ++ [row], by simp [hbl], by simp [hrl], ?_, ?_, ?_, ?_, ?_⟩
      · have L5 := L4.put (o' := .lst (refs bs ++ [V.ref p])) _ (get_mid _ _ _)
        rw [set_mid] at L5
        rw [rowI_snoc (by rw [hbl, hrl]), show refs (bs ++ [p]) = refs bs ++ [V.ref p] by simp [refs]]
        exact L5
      · have eu : res (upd H4 D (.lst (refs bs ++ [V.ref p]))) (fun b => b = D) = res H4 (fun b => b = D) := funext fun b => by
          by_cases hb : b = D
          · unfold res; rw [if_pos hb, if_pos hb]
          · unfold res; rw [if_neg hb, if_neg hb, upd_ne hb]
        rw [eu]
        exact hI4
      · rw [hP, List.drop_eq_getElem_cons hlt]
        rw [pieces_cons _ _ e2, hrow, List.append_assoc]
        rfl
      · rw [et, List.flatten_append, List.length_append, List.flatten_cons, List.flatten_nil, List.append_nil, ← e4]
        omega
      · rw [laid_snoc, List.length_append, List.length_append, List.length_singleton]
        omega
  · have e : i = calls.length := by omega
    subst e
    refine .inl ⟨⟨_, hs3, by rw [refs_len, hal]; exact Nat.le_refl _⟩, ?_⟩
    rw [List.drop_length] at hP
    have hP : Sy22Neutral.pieces .none calls = rows := by rw [hP]; simp [Sy22Neutral.pieces]
    rw [hP] at k
    walk_at "go"
    have hz1 : (bs.zip rows).map (·.2) = rows := by rw [List.map_snd_zip (by omega)]
    have hz2 : (bs.zip rows).map (fun r => V.ref r.1) = refs bs := by
      unfold refs
      rw [show (fun (r : Addr × List Int) => V.ref r.1) = V.ref ∘ Prod.fst from rfl, ← List.map_map, List.map_fst_zip (by omega)]
    refine use_lay_out (bs.zip rows) L3 ?_ ?_ ?_ fun p H4 L4 => ?_
    · rw [hz2]
      exact L3.lst _ (get_mid _ _ _)
    · intro r hr
      have : (r.1, HO.lst (iv r.2)) ∈ rowI bs rows := by
        unfold rowI
        have e : List.zipWith (fun (a : Addr) (r : List Int) => (a, HO.lst (iv r))) bs rows = (bs.zip rows).map fun r => (r.1, HO.lst (iv r.2)) := by
          unfold List.zip
          rw [List.map_zipWith]
        rw [e]
        exact List.mem_map.mpr ⟨r, hr, rfl⟩
      exact (L3.at_ _ (List.mem_append_right _ (List.mem_cons_of_mem _ this))).2
    · rw [hz1]; omega
    · rw [hz1] at L4
      exact k p H4 (L4.sub (List.sublist_append_right _ _))
end
end
section
local macro_rules | `(tactic| walk_at "lk") => `(tactic| first | exact get_Pieces_sealing | exact get_Pieces_summing | exact no_Pieces_begin | exact no_Pieces_go_with | exact no_Pieces_more | exact no_Pieces_end | exact no_Pieces_begin_sum | exact no_Pieces_go_on_sum | exact no_Pieces_tell_sum | exact no_Pieces_take | rfl)
local macro_rules | `(tactic| walk_at "put") => `(tactic| ((walk_at "go"); (walk_at "fp"); (intro H' L'); (simp only [put_Pieces_sealing, put_Pieces_summing, List.set_cons_zero, List.set_cons_succ] at L'); (try walk_at "go")))
theorem all_mk {P : Program} {w : World} {K : PySem.W.Frag} {h : Heap} {mg : Str → Option Value} {fa : Addr} (X : K.In h) (G : h.Ns mainGlobals mg) (hfa : mg "pieces" = some (.ref fa))
    {o_Summing : Addr}
    {o_Sealing : Addr}
    {o_Pieces : Addr}
    {f_double : Addr} {od_double an_double : Option Addr} {sl_double : Array (Option Value)} {oc_double kV_double dc_double pm_double cd_double ct_double : Value}
    {f_mix : Addr} {od_mix an_mix : Option Addr} {sl_mix : Array (Option Value)} {oc_mix kV_mix dc_mix pm_mix cd_mix ct_mix : Value}
    {f_add_key : Addr} {od_add_key an_add_key : Option Addr} {sl_add_key : Array (Option Value)} {oc_add_key kV_add_key dc_add_key pm_add_key cd_add_key ct_add_key : Value}
    {f_expand_key : Addr} {od_expand_key an_expand_key : Option Addr} {sl_expand_key : Array (Option Value)} {oc_expand_key kV_expand_key dc_expand_key pm_expand_key cd_expand_key ct_expand_key : Value}
    {f_encipher : Addr} {od_encipher an_encipher : Option Addr} {sl_encipher : Array (Option Value)} {oc_encipher kV_encipher dc_encipher pm_encipher cd_encipher ct_encipher : Value}
    {f_number_of : Addr} {od_number_of an_number_of : Option Addr} {sl_number_of : Array (Option Value)} {oc_number_of kV_number_of dc_number_of pm_number_of cd_number_of ct_number_of : Value}
    {f_bytes_of : Addr} {od_bytes_of an_bytes_of : Option Addr} {sl_bytes_of : Array (Option Value)} {oc_bytes_of kV_bytes_of dc_bytes_of pm_bytes_of cd_bytes_of ct_bytes_of : Value}
    {f_turn_left : Addr} {od_turn_left an_turn_left : Option Addr} {sl_turn_left : Array (Option Value)} {oc_turn_left kV_turn_left dc_turn_left pm_turn_left cd_turn_left ct_turn_left : Value}
    {f_turn_thrice : Addr} {od_turn_thrice an_turn_thrice : Option Addr} {sl_turn_thrice : Array (Option Value)} {oc_turn_thrice kV_turn_thrice dc_turn_thrice pm_turn_thrice cd_turn_thrice ct_turn_thrice : Value}
    {f_turn_and_shift : Addr} {od_turn_and_shift an_turn_and_shift : Option Addr} {sl_turn_and_shift : Array (Option Value)} {oc_turn_and_shift kV_turn_and_shift dc_turn_and_shift pm_turn_and_shift cd_turn_and_shift ct_turn_and_shift : Value}
    {f_words_of : Addr} {od_words_of an_words_of : Option Addr} {sl_words_of : Array (Option Value)} {oc_words_of kV_words_of dc_words_of pm_words_of cd_words_of ct_words_of : Value}
    {f_spread_block_1 : Addr} {od_spread_block_1 an_spread_block_1 : Option Addr} {sl_spread_block_1 : Array (Option Value)} {oc_spread_block_1 kV_spread_block_1 dc_spread_block_1 pm_spread_block_1 cd_spread_block_1 ct_spread_block_1 : Value}
    {f_choose_1 : Addr} {od_choose_1 an_choose_1 : Option Addr} {sl_choose_1 : Array (Option Value)} {oc_choose_1 kV_choose_1 dc_choose_1 pm_choose_1 cd_choose_1 ct_choose_1 : Value}
    {f_add_block_1 : Addr} {od_add_block_1 an_add_block_1 : Option Addr} {sl_add_block_1 : Array (Option Value)} {oc_add_block_1 kV_add_block_1 dc_add_block_1 pm_add_block_1 cd_add_block_1 ct_add_block_1 : Value}
    {f_spread_block_2 : Addr} {od_spread_block_2 an_spread_block_2 : Option Addr} {sl_spread_block_2 : Array (Option Value)} {oc_spread_block_2 kV_spread_block_2 dc_spread_block_2 pm_spread_block_2 cd_spread_block_2 ct_spread_block_2 : Value}
    {f_add_block_2 : Addr} {od_add_block_2 an_add_block_2 : Option Addr} {sl_add_block_2 : Array (Option Value)} {oc_add_block_2 kV_add_block_2 dc_add_block_2 pm_add_block_2 cd_add_block_2 ct_add_block_2 : Value}
    {f_add_blocks : Addr} {od_add_blocks an_add_blocks : Option Addr} {sl_add_blocks : Array (Option Value)} {oc_add_blocks kV_add_blocks dc_add_blocks pm_add_blocks cd_add_blocks ct_add_blocks : Value}
    {f_Summing_init : Addr} {od_Summing_init an_Summing_init : Option Addr} {sl_Summing_init : Array (Option Value)} {oc_Summing_init kV_Summing_init dc_Summing_init pm_Summing_init cd_Summing_init ct_Summing_init : Value}
    {f_Summing_add : Addr} {od_Summing_add an_Summing_add : Option Addr} {sl_Summing_add : Array (Option Value)} {oc_Summing_add kV_Summing_add dc_Summing_add pm_Summing_add cd_Summing_add ct_Summing_add : Value}
    {f_Summing_told : Addr} {od_Summing_told an_Summing_told : Option Addr} {sl_Summing_told : Array (Option Value)} {oc_Summing_told kV_Summing_told dc_Summing_told pm_Summing_told cd_Summing_told ct_Summing_told : Value}
    {f_multiply : Addr} {od_multiply an_multiply : Option Addr} {sl_multiply : Array (Option Value)} {oc_multiply kV_multiply dc_multiply pm_multiply cd_multiply ct_multiply : Value}
    {f_Sealing_init : Addr} {od_Sealing_init an_Sealing_init : Option Addr} {sl_Sealing_init : Array (Option Value)} {oc_Sealing_init kV_Sealing_init dc_Sealing_init pm_Sealing_init cd_Sealing_init ct_Sealing_init : Value}
    {f_Sealing_enciphered_count : Addr} {od_Sealing_enciphered_count an_Sealing_enciphered_count : Option Addr} {sl_Sealing_enciphered_count : Array (Option Value)} {oc_Sealing_enciphered_count kV_Sealing_enciphered_count dc_Sealing_enciphered_count pm_Sealing_enciphered_count cd_Sealing_enciphered_count ct_Sealing_enciphered_count : Value}
    {f_Sealing_hold : Addr} {od_Sealing_hold an_Sealing_hold : Option Addr} {sl_Sealing_hold : Array (Option Value)} {oc_Sealing_hold kV_Sealing_hold dc_Sealing_hold pm_Sealing_hold cd_Sealing_hold ct_Sealing_hold : Value}
    {f_Sealing_fill_block : Addr} {od_Sealing_fill_block an_Sealing_fill_block : Option Addr} {sl_Sealing_fill_block : Array (Option Value)} {oc_Sealing_fill_block kV_Sealing_fill_block dc_Sealing_fill_block pm_Sealing_fill_block cd_Sealing_fill_block ct_Sealing_fill_block : Value}
    {f_Sealing_take_beside : Addr} {od_Sealing_take_beside an_Sealing_take_beside : Option Addr} {sl_Sealing_take_beside : Array (Option Value)} {oc_Sealing_take_beside kV_Sealing_take_beside dc_Sealing_take_beside pm_Sealing_take_beside cd_Sealing_take_beside ct_Sealing_take_beside : Value}
    {f_Sealing_run_stream : Addr} {od_Sealing_run_stream an_Sealing_run_stream : Option Addr} {sl_Sealing_run_stream : Array (Option Value)} {oc_Sealing_run_stream kV_Sealing_run_stream dc_Sealing_run_stream pm_Sealing_run_stream cd_Sealing_run_stream ct_Sealing_run_stream : Value}
    {f_Sealing_take_text : Addr} {od_Sealing_take_text an_Sealing_take_text : Option Addr} {sl_Sealing_take_text : Array (Option Value)} {oc_Sealing_take_text kV_Sealing_take_text dc_Sealing_take_text pm_Sealing_take_text cd_Sealing_take_text ct_Sealing_take_text : Value}
    {f_Sealing_tag : Addr} {od_Sealing_tag an_Sealing_tag : Option Addr} {sl_Sealing_tag : Array (Option Value)} {oc_Sealing_tag kV_Sealing_tag dc_Sealing_tag pm_Sealing_tag cd_Sealing_tag ct_Sealing_tag : Value}
    {f_Pieces_init : Addr} {od_Pieces_init an_Pieces_init : Option Addr} {sl_Pieces_init : Array (Option Value)} {oc_Pieces_init kV_Pieces_init dc_Pieces_init pm_Pieces_init cd_Pieces_init ct_Pieces_init : Value}
    {f_Pieces_begin : Addr} {od_Pieces_begin an_Pieces_begin : Option Addr} {sl_Pieces_begin : Array (Option Value)} {oc_Pieces_begin kV_Pieces_begin dc_Pieces_begin pm_Pieces_begin cd_Pieces_begin ct_Pieces_begin : Value}
    {f_Pieces_go_with : Addr} {od_Pieces_go_with an_Pieces_go_with : Option Addr} {sl_Pieces_go_with : Array (Option Value)} {oc_Pieces_go_with kV_Pieces_go_with dc_Pieces_go_with pm_Pieces_go_with cd_Pieces_go_with ct_Pieces_go_with : Value}
    {f_Pieces_more : Addr} {od_Pieces_more an_Pieces_more : Option Addr} {sl_Pieces_more : Array (Option Value)} {oc_Pieces_more kV_Pieces_more dc_Pieces_more pm_Pieces_more cd_Pieces_more ct_Pieces_more : Value}
    {f_Pieces_end : Addr} {od_Pieces_end an_Pieces_end : Option Addr} {sl_Pieces_end : Array (Option Value)} {oc_Pieces_end kV_Pieces_end dc_Pieces_end pm_Pieces_end cd_Pieces_end ct_Pieces_end : Value}
    {f_Pieces_begin_sum : Addr} {od_Pieces_begin_sum an_Pieces_begin_sum : Option Addr} {sl_Pieces_begin_sum : Array (Option Value)} {oc_Pieces_begin_sum kV_Pieces_begin_sum dc_Pieces_begin_sum pm_Pieces_begin_sum cd_Pieces_begin_sum ct_Pieces_begin_sum : Value}
    {f_Pieces_go_on_sum : Addr} {od_Pieces_go_on_sum an_Pieces_go_on_sum : Option Addr} {sl_Pieces_go_on_sum : Array (Option Value)} {oc_Pieces_go_on_sum kV_Pieces_go_on_sum dc_Pieces_go_on_sum pm_Pieces_go_on_sum cd_Pieces_go_on_sum ct_Pieces_go_on_sum : Value}
    {f_Pieces_tell_sum : Addr} {od_Pieces_tell_sum an_Pieces_tell_sum : Option Addr} {sl_Pieces_tell_sum : Array (Option Value)} {oc_Pieces_tell_sum kV_Pieces_tell_sum dc_Pieces_tell_sum pm_Pieces_tell_sum cd_Pieces_tell_sum ct_Pieces_tell_sum : Value}
    {f_Pieces_take : Addr} {od_Pieces_take an_Pieces_take : Option Addr} {sl_Pieces_take : Array (Option Value)} {oc_Pieces_take kV_Pieces_take dc_Pieces_take pm_Pieces_take cd_Pieces_take ct_Pieces_take : Value}
    {f_lay_out : Addr} {od_lay_out an_lay_out : Option Addr} {sl_lay_out : Array (Option Value)} {oc_lay_out kV_lay_out dc_lay_out pm_lay_out cd_lay_out ct_lay_out : Value}
    {f_pieces : Addr} {od_pieces an_pieces : Option Addr} {sl_pieces : Array (Option Value)} {oc_pieces kV_pieces dc_pieces pm_pieces cd_pieces ct_pieces : Value}
    {t_KEY_LENGTHS : Addr} {od_KEY_LENGTHS : Option Addr} {its_KEY_LENGTHS : Array Value} {n_KEY_LENGTHS : Nat} {sl_KEY_LENGTHS : Array (Option Value)}
    {t_SUBSTITUTE : Addr} {od_SUBSTITUTE : Option Addr} {its_SUBSTITUTE : Array Value} {n_SUBSTITUTE : Nat} {sl_SUBSTITUTE : Array (Option Value)}
    {t_SHIFT : Addr} {od_SHIFT : Option Addr} {its_SHIFT : Array Value} {n_SHIFT : Nat} {sl_SHIFT : Array (Option Value)}
    {t_KINDS : Addr} {od_KINDS : Option Addr} {its_KINDS : Array Value} {n_KINDS : Nat} {sl_KINDS : Array (Option Value)}
    {t_START_1 : Addr} {od_START_1 : Option Addr} {its_START_1 : Array Value} {n_START_1 : Nat} {sl_START_1 : Array (Option Value)}
    {t_START_2 : Addr} {od_START_2 : Option Addr} {its_START_2 : Array Value} {n_START_2 : Nat} {sl_START_2 : Array (Option Value)}
    {t_CONSTANTS_1 : Addr} {od_CONSTANTS_1 : Option Addr} {its_CONSTANTS_1 : Array Value} {n_CONSTANTS_1 : Nat} {sl_CONSTANTS_1 : Array (Option Value)}
    {t_CONSTANTS_2 : Addr} {od_CONSTANTS_2 : Option Addr} {its_CONSTANTS_2 : Array Value} {n_CONSTANTS_2 : Nat} {sl_CONSTANTS_2 : Array (Option Value)}
    {i_BLOCK : Tok}
    {i_MASK : Tok}
    {i_TAG_LENGTH : Tok}
    {i_OVERFLOW : Tok}
    (g_Summing : PySem.W.nsIn K mainGlobals "Summing" = some (some (.ref o_Summing))) (pg_Summing : PySem.W.plainGet K o_Summing Str.empty = true) (hd_Summing : PySem.W.hasDictIn K o_Summing = true) (po_Summing : PySem.W.plainOver K o_Summing = true) (sa_Summing : PySem.W.findIn K (.ref o_Summing) "__setattr__" = some (some (.builtin "object.__setattr__"))) (mk_Summing : PySem.W.makesIn K o_Summing = true) (kc_Summing : PySem.W.keepIn K (.ref o_Summing) = true) (n_kind_Summing : PySem.W.findIn K (.ref o_Summing) "kind" = some none) (n_state_Summing : PySem.W.findIn K (.ref o_Summing) "state" = some none) (n_waiting_Summing : PySem.W.findIn K (.ref o_Summing) "waiting" = some none) (n_summed_length_Summing : PySem.W.findIn K (.ref o_Summing) "summed_length" = some none)
    (g_Sealing : PySem.W.nsIn K mainGlobals "Sealing" = some (some (.ref o_Sealing))) (pg_Sealing : PySem.W.plainGet K o_Sealing Str.empty = true) (hd_Sealing : PySem.W.hasDictIn K o_Sealing = true) (po_Sealing : PySem.W.plainOver K o_Sealing = true) (sa_Sealing : PySem.W.findIn K (.ref o_Sealing) "__setattr__" = some (some (.builtin "object.__setattr__"))) (mk_Sealing : PySem.W.makesIn K o_Sealing = true) (kc_Sealing : PySem.W.keepIn K (.ref o_Sealing) = true) (n_round_keys_Sealing : PySem.W.findIn K (.ref o_Sealing) "round_keys" = some none) (n_factor_Sealing : PySem.W.findIn K (.ref o_Sealing) "factor" = some none) (n_nonce_Sealing : PySem.W.findIn K (.ref o_Sealing) "nonce" = some none) (n_opening_Sealing : PySem.W.findIn K (.ref o_Sealing) "opening" = some none) (n_stream_Sealing : PySem.W.findIn K (.ref o_Sealing) "stream" = some none) (n_beside_length_Sealing : PySem.W.findIn K (.ref o_Sealing) "beside_length" = some none) (n_text_length_Sealing : PySem.W.findIn K (.ref o_Sealing) "text_length" = some none) (n_text_begun_Sealing : PySem.W.findIn K (.ref o_Sealing) "text_begun" = some none) (n_tagged_Sealing : PySem.W.findIn K (.ref o_Sealing) "tagged" = some none) (n_waiting_Sealing : PySem.W.findIn K (.ref o_Sealing) "waiting" = some none)
    (g_Pieces : PySem.W.nsIn K mainGlobals "Pieces" = some (some (.ref o_Pieces))) (pg_Pieces : PySem.W.plainGet K o_Pieces Str.empty = true) (hd_Pieces : PySem.W.hasDictIn K o_Pieces = true) (po_Pieces : PySem.W.plainOver K o_Pieces = true) (sa_Pieces : PySem.W.findIn K (.ref o_Pieces) "__setattr__" = some (some (.builtin "object.__setattr__"))) (mk_Pieces : PySem.W.makesIn K o_Pieces = true) (kc_Pieces : PySem.W.keepIn K (.ref o_Pieces) = true) (n_sealing_Pieces : PySem.W.findIn K (.ref o_Pieces) "sealing" = some none) (n_summing_Pieces : PySem.W.findIn K (.ref o_Pieces) "summing" = some none)
    (a_double : PySem.W.nsIn K mainGlobals "double" = some (some (.ref f_double))) (l_double : K.lookup f_double = some ⟨oc_double, od_double, .func (PySem.W.fnOf "double" "double" (defArgs s_double) (defBody s_double) (defScope s_double) .none kV_double dc_double pm_double an_double cd_double ct_double), sl_double⟩) (c_double : PySem.W.codeIn K cd_double "double" = true) (k_double : PySem.W.keepIn K (.ref f_double) = true)
    (a_mix : PySem.W.nsIn K mainGlobals "mix" = some (some (.ref f_mix))) (l_mix : K.lookup f_mix = some ⟨oc_mix, od_mix, .func (PySem.W.fnOf "mix" "mix" (defArgs s_mix) (defBody s_mix) (defScope s_mix) .none kV_mix dc_mix pm_mix an_mix cd_mix ct_mix), sl_mix⟩) (c_mix : PySem.W.codeIn K cd_mix "mix" = true) (k_mix : PySem.W.keepIn K (.ref f_mix) = true)
    (a_add_key : PySem.W.nsIn K mainGlobals "add_key" = some (some (.ref f_add_key))) (l_add_key : K.lookup f_add_key = some ⟨oc_add_key, od_add_key, .func (PySem.W.fnOf "add_key" "add_key" (defArgs s_add_key) (defBody s_add_key) (defScope s_add_key) .none kV_add_key dc_add_key pm_add_key an_add_key cd_add_key ct_add_key), sl_add_key⟩) (c_add_key : PySem.W.codeIn K cd_add_key "add_key" = true) (k_add_key : PySem.W.keepIn K (.ref f_add_key) = true)
    (a_expand_key : PySem.W.nsIn K mainGlobals "expand_key" = some (some (.ref f_expand_key))) (l_expand_key : K.lookup f_expand_key = some ⟨oc_expand_key, od_expand_key, .func (PySem.W.fnOf "expand_key" "expand_key" (defArgs s_expand_key) (defBody s_expand_key) (defScope s_expand_key) .none kV_expand_key dc_expand_key pm_expand_key an_expand_key cd_expand_key ct_expand_key), sl_expand_key⟩) (c_expand_key : PySem.W.codeIn K cd_expand_key "expand_key" = true) (k_expand_key : PySem.W.keepIn K (.ref f_expand_key) = true)
    (a_encipher : PySem.W.nsIn K mainGlobals "encipher" = some (some (.ref f_encipher))) (l_encipher : K.lookup f_encipher = some ⟨oc_encipher, od_encipher, .func (PySem.W.fnOf "encipher" "encipher" (defArgs s_encipher) (defBody s_encipher) (defScope s_encipher) .none kV_encipher dc_encipher pm_encipher an_encipher cd_encipher ct_encipher), sl_encipher⟩) (c_encipher : PySem.W.codeIn K cd_encipher "encipher" = true) (k_encipher : PySem.W.keepIn K (.ref f_encipher) = true)
    (a_number_of : PySem.W.nsIn K mainGlobals "number_of" = some (some (.ref f_number_of))) (l_number_of : K.lookup f_number_of = some ⟨oc_number_of, od_number_of, .func (PySem.W.fnOf "number_of" "number_of" (defArgs s_number_of) (defBody s_number_of) (defScope s_number_of) .none kV_number_of dc_number_of pm_number_of an_number_of cd_number_of ct_number_of), sl_number_of⟩) (c_number_of : PySem.W.codeIn K cd_number_of "number_of" = true) (k_number_of : PySem.W.keepIn K (.ref f_number_of) = true)
    (a_bytes_of : PySem.W.nsIn K mainGlobals "bytes_of" = some (some (.ref f_bytes_of))) (l_bytes_of : K.lookup f_bytes_of = some ⟨oc_bytes_of, od_bytes_of, .func (PySem.W.fnOf "bytes_of" "bytes_of" (defArgs s_bytes_of) (defBody s_bytes_of) (defScope s_bytes_of) .none kV_bytes_of dc_bytes_of pm_bytes_of an_bytes_of cd_bytes_of ct_bytes_of), sl_bytes_of⟩) (c_bytes_of : PySem.W.codeIn K cd_bytes_of "bytes_of" = true) (k_bytes_of : PySem.W.keepIn K (.ref f_bytes_of) = true)
    (a_turn_left : PySem.W.nsIn K mainGlobals "turn_left" = some (some (.ref f_turn_left))) (l_turn_left : K.lookup f_turn_left = some ⟨oc_turn_left, od_turn_left, .func (PySem.W.fnOf "turn_left" "turn_left" (defArgs s_turn_left) (defBody s_turn_left) (defScope s_turn_left) .none kV_turn_left dc_turn_left pm_turn_left an_turn_left cd_turn_left ct_turn_left), sl_turn_left⟩) (c_turn_left : PySem.W.codeIn K cd_turn_left "turn_left" = true) (k_turn_left : PySem.W.keepIn K (.ref f_turn_left) = true)
    (a_turn_thrice : PySem.W.nsIn K mainGlobals "turn_thrice" = some (some (.ref f_turn_thrice))) (l_turn_thrice : K.lookup f_turn_thrice = some ⟨oc_turn_thrice, od_turn_thrice, .func (PySem.W.fnOf "turn_thrice" "turn_thrice" (defArgs s_turn_thrice) (defBody s_turn_thrice) (defScope s_turn_thrice) .none kV_turn_thrice dc_turn_thrice pm_turn_thrice an_turn_thrice cd_turn_thrice ct_turn_thrice), sl_turn_thrice⟩) (c_turn_thrice : PySem.W.codeIn K cd_turn_thrice "turn_thrice" = true) (k_turn_thrice : PySem.W.keepIn K (.ref f_turn_thrice) = true)
    (a_turn_and_shift : PySem.W.nsIn K mainGlobals "turn_and_shift" = some (some (.ref f_turn_and_shift))) (l_turn_and_shift : K.lookup f_turn_and_shift = some ⟨oc_turn_and_shift, od_turn_and_shift, .func (PySem.W.fnOf "turn_and_shift" "turn_and_shift" (defArgs s_turn_and_shift) (defBody s_turn_and_shift) (defScope s_turn_and_shift) .none kV_turn_and_shift dc_turn_and_shift pm_turn_and_shift an_turn_and_shift cd_turn_and_shift ct_turn_and_shift), sl_turn_and_shift⟩) (c_turn_and_shift : PySem.W.codeIn K cd_turn_and_shift "turn_and_shift" = true) (k_turn_and_shift : PySem.W.keepIn K (.ref f_turn_and_shift) = true)
    (a_words_of : PySem.W.nsIn K mainGlobals "words_of" = some (some (.ref f_words_of))) (l_words_of : K.lookup f_words_of = some ⟨oc_words_of, od_words_of, .func (PySem.W.fnOf "words_of" "words_of" (defArgs s_words_of) (defBody s_words_of) (defScope s_words_of) .none kV_words_of dc_words_of pm_words_of an_words_of cd_words_of ct_words_of), sl_words_of⟩) (c_words_of : PySem.W.codeIn K cd_words_of "words_of" = true) (k_words_of : PySem.W.keepIn K (.ref f_words_of) = true)
    (a_spread_block_1 : PySem.W.nsIn K mainGlobals "spread_block_1" = some (some (.ref f_spread_block_1))) (l_spread_block_1 : K.lookup f_spread_block_1 = some ⟨oc_spread_block_1, od_spread_block_1, .func (PySem.W.fnOf "spread_block_1" "spread_block_1" (defArgs s_spread_block_1) (defBody s_spread_block_1) (defScope s_spread_block_1) .none kV_spread_block_1 dc_spread_block_1 pm_spread_block_1 an_spread_block_1 cd_spread_block_1 ct_spread_block_1), sl_spread_block_1⟩) (c_spread_block_1 : PySem.W.codeIn K cd_spread_block_1 "spread_block_1" = true) (k_spread_block_1 : PySem.W.keepIn K (.ref f_spread_block_1) = true)
    (a_choose_1 : PySem.W.nsIn K mainGlobals "choose_1" = some (some (.ref f_choose_1))) (l_choose_1 : K.lookup f_choose_1 = some ⟨oc_choose_1, od_choose_1, .func (PySem.W.fnOf "choose_1" "choose_1" (defArgs s_choose_1) (defBody s_choose_1) (defScope s_choose_1) .none kV_choose_1 dc_choose_1 pm_choose_1 an_choose_1 cd_choose_1 ct_choose_1), sl_choose_1⟩) (c_choose_1 : PySem.W.codeIn K cd_choose_1 "choose_1" = true) (k_choose_1 : PySem.W.keepIn K (.ref f_choose_1) = true)
    (a_add_block_1 : PySem.W.nsIn K mainGlobals "add_block_1" = some (some (.ref f_add_block_1))) (l_add_block_1 : K.lookup f_add_block_1 = some ⟨oc_add_block_1, od_add_block_1, .func (PySem.W.fnOf "add_block_1" "add_block_1" (defArgs s_add_block_1) (defBody s_add_block_1) (defScope s_add_block_1) .none kV_add_block_1 dc_add_block_1 pm_add_block_1 an_add_block_1 cd_add_block_1 ct_add_block_1), sl_add_block_1⟩) (c_add_block_1 : PySem.W.codeIn K cd_add_block_1 "add_block_1" = true) (k_add_block_1 : PySem.W.keepIn K (.ref f_add_block_1) = true)
    (a_spread_block_2 : PySem.W.nsIn K mainGlobals "spread_block_2" = some (some (.ref f_spread_block_2))) (l_spread_block_2 : K.lookup f_spread_block_2 = some ⟨oc_spread_block_2, od_spread_block_2, .func (PySem.W.fnOf "spread_block_2" "spread_block_2" (defArgs s_spread_block_2) (defBody s_spread_block_2) (defScope s_spread_block_2) .none kV_spread_block_2 dc_spread_block_2 pm_spread_block_2 an_spread_block_2 cd_spread_block_2 ct_spread_block_2), sl_spread_block_2⟩) (c_spread_block_2 : PySem.W.codeIn K cd_spread_block_2 "spread_block_2" = true) (k_spread_block_2 : PySem.W.keepIn K (.ref f_spread_block_2) = true)
    (a_add_block_2 : PySem.W.nsIn K mainGlobals "add_block_2" = some (some (.ref f_add_block_2))) (l_add_block_2 : K.lookup f_add_block_2 = some ⟨oc_add_block_2, od_add_block_2, .func (PySem.W.fnOf "add_block_2" "add_block_2" (defArgs s_add_block_2) (defBody s_add_block_2) (defScope s_add_block_2) .none kV_add_block_2 dc_add_block_2 pm_add_block_2 an_add_block_2 cd_add_block_2 ct_add_block_2), sl_add_block_2⟩) (c_add_block_2 : PySem.W.codeIn K cd_add_block_2 "add_block_2" = true) (k_add_block_2 : PySem.W.keepIn K (.ref f_add_block_2) = true)
    (a_add_blocks : PySem.W.nsIn K mainGlobals "add_blocks" = some (some (.ref f_add_blocks))) (l_add_blocks : K.lookup f_add_blocks = some ⟨oc_add_blocks, od_add_blocks, .func (PySem.W.fnOf "add_blocks" "add_blocks" (defArgs s_add_blocks) (defBody s_add_blocks) (defScope s_add_blocks) .none kV_add_blocks dc_add_blocks pm_add_blocks an_add_blocks cd_add_blocks ct_add_blocks), sl_add_blocks⟩) (c_add_blocks : PySem.W.codeIn K cd_add_blocks "add_blocks" = true) (k_add_blocks : PySem.W.keepIn K (.ref f_add_blocks) = true)
    (a_Summing_init : PySem.W.findIn K (.ref o_Summing) "__init__" = some (some (.ref f_Summing_init))) (i_Summing_init : PySem.W.isFn K (.ref f_Summing_init) = true) (l_Summing_init : K.lookup f_Summing_init = some ⟨oc_Summing_init, od_Summing_init, .func (PySem.W.fnOf "__init__" "Summing.__init__" (defArgs s_Summing_init) (defBody s_Summing_init) (defScope s_Summing_init) .none kV_Summing_init dc_Summing_init pm_Summing_init an_Summing_init cd_Summing_init ct_Summing_init), sl_Summing_init⟩) (c_Summing_init : PySem.W.codeIn K cd_Summing_init "Summing.__init__" = true) (k_Summing_init : PySem.W.keepIn K (.ref f_Summing_init) = true)
    (a_Summing_add : PySem.W.findIn K (.ref o_Summing) "add" = some (some (.ref f_Summing_add))) (i_Summing_add : PySem.W.isFn K (.ref f_Summing_add) = true) (l_Summing_add : K.lookup f_Summing_add = some ⟨oc_Summing_add, od_Summing_add, .func (PySem.W.fnOf "add" "Summing.add" (defArgs s_Summing_add) (defBody s_Summing_add) (defScope s_Summing_add) .none kV_Summing_add dc_Summing_add pm_Summing_add an_Summing_add cd_Summing_add ct_Summing_add), sl_Summing_add⟩) (c_Summing_add : PySem.W.codeIn K cd_Summing_add "Summing.add" = true) (k_Summing_add : PySem.W.keepIn K (.ref f_Summing_add) = true)
    (a_Summing_told : PySem.W.findIn K (.ref o_Summing) "told" = some (some (.ref f_Summing_told))) (i_Summing_told : PySem.W.isFn K (.ref f_Summing_told) = true) (l_Summing_told : K.lookup f_Summing_told = some ⟨oc_Summing_told, od_Summing_told, .func (PySem.W.fnOf "told" "Summing.told" (defArgs s_Summing_told) (defBody s_Summing_told) (defScope s_Summing_told) .none kV_Summing_told dc_Summing_told pm_Summing_told an_Summing_told cd_Summing_told ct_Summing_told), sl_Summing_told⟩) (c_Summing_told : PySem.W.codeIn K cd_Summing_told "Summing.told" = true) (k_Summing_told : PySem.W.keepIn K (.ref f_Summing_told) = true)
    (a_multiply : PySem.W.nsIn K mainGlobals "multiply" = some (some (.ref f_multiply))) (l_multiply : K.lookup f_multiply = some ⟨oc_multiply, od_multiply, .func (PySem.W.fnOf "multiply" "multiply" (defArgs s_multiply) (defBody s_multiply) (defScope s_multiply) .none kV_multiply dc_multiply pm_multiply an_multiply cd_multiply ct_multiply), sl_multiply⟩) (c_multiply : PySem.W.codeIn K cd_multiply "multiply" = true) (k_multiply : PySem.W.keepIn K (.ref f_multiply) = true)
    (a_Sealing_init : PySem.W.findIn K (.ref o_Sealing) "__init__" = some (some (.ref f_Sealing_init))) (i_Sealing_init : PySem.W.isFn K (.ref f_Sealing_init) = true) (l_Sealing_init : K.lookup f_Sealing_init = some ⟨oc_Sealing_init, od_Sealing_init, .func (PySem.W.fnOf "__init__" "Sealing.__init__" (defArgs s_Sealing_init) (defBody s_Sealing_init) (defScope s_Sealing_init) .none kV_Sealing_init dc_Sealing_init pm_Sealing_init an_Sealing_init cd_Sealing_init ct_Sealing_init), sl_Sealing_init⟩) (c_Sealing_init : PySem.W.codeIn K cd_Sealing_init "Sealing.__init__" = true) (k_Sealing_init : PySem.W.keepIn K (.ref f_Sealing_init) = true)
    (a_Sealing_enciphered_count : PySem.W.findIn K (.ref o_Sealing) "enciphered_count" = some (some (.ref f_Sealing_enciphered_count))) (i_Sealing_enciphered_count : PySem.W.isFn K (.ref f_Sealing_enciphered_count) = true) (l_Sealing_enciphered_count : K.lookup f_Sealing_enciphered_count = some ⟨oc_Sealing_enciphered_count, od_Sealing_enciphered_count, .func (PySem.W.fnOf "enciphered_count" "Sealing.enciphered_count" (defArgs s_Sealing_enciphered_count) (defBody s_Sealing_enciphered_count) (defScope s_Sealing_enciphered_count) .none kV_Sealing_enciphered_count dc_Sealing_enciphered_count pm_Sealing_enciphered_count an_Sealing_enciphered_count cd_Sealing_enciphered_count ct_Sealing_enciphered_count), sl_Sealing_enciphered_count⟩) (c_Sealing_enciphered_count : PySem.W.codeIn K cd_Sealing_enciphered_count "Sealing.enciphered_count" = true) (k_Sealing_enciphered_count : PySem.W.keepIn K (.ref f_Sealing_enciphered_count) = true)
    (a_Sealing_hold : PySem.W.findIn K (.ref o_Sealing) "hold" = some (some (.ref f_Sealing_hold))) (i_Sealing_hold : PySem.W.isFn K (.ref f_Sealing_hold) = true) (l_Sealing_hold : K.lookup f_Sealing_hold = some ⟨oc_Sealing_hold, od_Sealing_hold, .func (PySem.W.fnOf "hold" "Sealing.hold" (defArgs s_Sealing_hold) (defBody s_Sealing_hold) (defScope s_Sealing_hold) .none kV_Sealing_hold dc_Sealing_hold pm_Sealing_hold an_Sealing_hold cd_Sealing_hold ct_Sealing_hold), sl_Sealing_hold⟩) (c_Sealing_hold : PySem.W.codeIn K cd_Sealing_hold "Sealing.hold" = true) (k_Sealing_hold : PySem.W.keepIn K (.ref f_Sealing_hold) = true)
    (a_Sealing_fill_block : PySem.W.findIn K (.ref o_Sealing) "fill_block" = some (some (.ref f_Sealing_fill_block))) (i_Sealing_fill_block : PySem.W.isFn K (.ref f_Sealing_fill_block) = true) (l_Sealing_fill_block : K.lookup f_Sealing_fill_block = some ⟨oc_Sealing_fill_block, od_Sealing_fill_block, .func (PySem.W.fnOf "fill_block" "Sealing.fill_block" (defArgs s_Sealing_fill_block) (defBody s_Sealing_fill_block) (defScope s_Sealing_fill_block) .none kV_Sealing_fill_block dc_Sealing_fill_block pm_Sealing_fill_block an_Sealing_fill_block cd_Sealing_fill_block ct_Sealing_fill_block), sl_Sealing_fill_block⟩) (c_Sealing_fill_block : PySem.W.codeIn K cd_Sealing_fill_block "Sealing.fill_block" = true) (k_Sealing_fill_block : PySem.W.keepIn K (.ref f_Sealing_fill_block) = true)
    (a_Sealing_take_beside : PySem.W.findIn K (.ref o_Sealing) "take_beside" = some (some (.ref f_Sealing_take_beside))) (i_Sealing_take_beside : PySem.W.isFn K (.ref f_Sealing_take_beside) = true) (l_Sealing_take_beside : K.lookup f_Sealing_take_beside = some ⟨oc_Sealing_take_beside, od_Sealing_take_beside, .func (PySem.W.fnOf "take_beside" "Sealing.take_beside" (defArgs s_Sealing_take_beside) (defBody s_Sealing_take_beside) (defScope s_Sealing_take_beside) .none kV_Sealing_take_beside dc_Sealing_take_beside pm_Sealing_take_beside an_Sealing_take_beside cd_Sealing_take_beside ct_Sealing_take_beside), sl_Sealing_take_beside⟩) (c_Sealing_take_beside : PySem.W.codeIn K cd_Sealing_take_beside "Sealing.take_beside" = true) (k_Sealing_take_beside : PySem.W.keepIn K (.ref f_Sealing_take_beside) = true)
    (a_Sealing_run_stream : PySem.W.findIn K (.ref o_Sealing) "run_stream" = some (some (.ref f_Sealing_run_stream))) (i_Sealing_run_stream : PySem.W.isFn K (.ref f_Sealing_run_stream) = true) (l_Sealing_run_stream : K.lookup f_Sealing_run_stream = some ⟨oc_Sealing_run_stream, od_Sealing_run_stream, .func (PySem.W.fnOf "run_stream" "Sealing.run_stream" (defArgs s_Sealing_run_stream) (defBody s_Sealing_run_stream) (defScope s_Sealing_run_stream) .none kV_Sealing_run_stream dc_Sealing_run_stream pm_Sealing_run_stream an_Sealing_run_stream cd_Sealing_run_stream ct_Sealing_run_stream), sl_Sealing_run_stream⟩) (c_Sealing_run_stream : PySem.W.codeIn K cd_Sealing_run_stream "Sealing.run_stream" = true) (k_Sealing_run_stream : PySem.W.keepIn K (.ref f_Sealing_run_stream) = true)
    (a_Sealing_take_text : PySem.W.findIn K (.ref o_Sealing) "take_text" = some (some (.ref f_Sealing_take_text))) (i_Sealing_take_text : PySem.W.isFn K (.ref f_Sealing_take_text) = true) (l_Sealing_take_text : K.lookup f_Sealing_take_text = some ⟨oc_Sealing_take_text, od_Sealing_take_text, .func (PySem.W.fnOf "take_text" "Sealing.take_text" (defArgs s_Sealing_take_text) (defBody s_Sealing_take_text) (defScope s_Sealing_take_text) .none kV_Sealing_take_text dc_Sealing_take_text pm_Sealing_take_text an_Sealing_take_text cd_Sealing_take_text ct_Sealing_take_text), sl_Sealing_take_text⟩) (c_Sealing_take_text : PySem.W.codeIn K cd_Sealing_take_text "Sealing.take_text" = true) (k_Sealing_take_text : PySem.W.keepIn K (.ref f_Sealing_take_text) = true)
    (a_Sealing_tag : PySem.W.findIn K (.ref o_Sealing) "tag" = some (some (.ref f_Sealing_tag))) (i_Sealing_tag : PySem.W.isFn K (.ref f_Sealing_tag) = true) (l_Sealing_tag : K.lookup f_Sealing_tag = some ⟨oc_Sealing_tag, od_Sealing_tag, .func (PySem.W.fnOf "tag" "Sealing.tag" (defArgs s_Sealing_tag) (defBody s_Sealing_tag) (defScope s_Sealing_tag) .none kV_Sealing_tag dc_Sealing_tag pm_Sealing_tag an_Sealing_tag cd_Sealing_tag ct_Sealing_tag), sl_Sealing_tag⟩) (c_Sealing_tag : PySem.W.codeIn K cd_Sealing_tag "Sealing.tag" = true) (k_Sealing_tag : PySem.W.keepIn K (.ref f_Sealing_tag) = true)
    (a_Pieces_init : PySem.W.findIn K (.ref o_Pieces) "__init__" = some (some (.ref f_Pieces_init))) (i_Pieces_init : PySem.W.isFn K (.ref f_Pieces_init) = true) (l_Pieces_init : K.lookup f_Pieces_init = some ⟨oc_Pieces_init, od_Pieces_init, .func (PySem.W.fnOf "__init__" "Pieces.__init__" (defArgs s_Pieces_init) (defBody s_Pieces_init) (defScope s_Pieces_init) .none kV_Pieces_init dc_Pieces_init pm_Pieces_init an_Pieces_init cd_Pieces_init ct_Pieces_init), sl_Pieces_init⟩) (c_Pieces_init : PySem.W.codeIn K cd_Pieces_init "Pieces.__init__" = true) (k_Pieces_init : PySem.W.keepIn K (.ref f_Pieces_init) = true)
    (a_Pieces_begin : PySem.W.findIn K (.ref o_Pieces) "begin" = some (some (.ref f_Pieces_begin))) (i_Pieces_begin : PySem.W.isFn K (.ref f_Pieces_begin) = true) (l_Pieces_begin : K.lookup f_Pieces_begin = some ⟨oc_Pieces_begin, od_Pieces_begin, .func (PySem.W.fnOf "begin" "Pieces.begin" (defArgs s_Pieces_begin) (defBody s_Pieces_begin) (defScope s_Pieces_begin) .none kV_Pieces_begin dc_Pieces_begin pm_Pieces_begin an_Pieces_begin cd_Pieces_begin ct_Pieces_begin), sl_Pieces_begin⟩) (c_Pieces_begin : PySem.W.codeIn K cd_Pieces_begin "Pieces.begin" = true) (k_Pieces_begin : PySem.W.keepIn K (.ref f_Pieces_begin) = true)
    (a_Pieces_go_with : PySem.W.findIn K (.ref o_Pieces) "go_with" = some (some (.ref f_Pieces_go_with))) (i_Pieces_go_with : PySem.W.isFn K (.ref f_Pieces_go_with) = true) (l_Pieces_go_with : K.lookup f_Pieces_go_with = some ⟨oc_Pieces_go_with, od_Pieces_go_with, .func (PySem.W.fnOf "go_with" "Pieces.go_with" (defArgs s_Pieces_go_with) (defBody s_Pieces_go_with) (defScope s_Pieces_go_with) .none kV_Pieces_go_with dc_Pieces_go_with pm_Pieces_go_with an_Pieces_go_with cd_Pieces_go_with ct_Pieces_go_with), sl_Pieces_go_with⟩) (c_Pieces_go_with : PySem.W.codeIn K cd_Pieces_go_with "Pieces.go_with" = true) (k_Pieces_go_with : PySem.W.keepIn K (.ref f_Pieces_go_with) = true)
    (a_Pieces_more : PySem.W.findIn K (.ref o_Pieces) "more" = some (some (.ref f_Pieces_more))) (i_Pieces_more : PySem.W.isFn K (.ref f_Pieces_more) = true) (l_Pieces_more : K.lookup f_Pieces_more = some ⟨oc_Pieces_more, od_Pieces_more, .func (PySem.W.fnOf "more" "Pieces.more" (defArgs s_Pieces_more) (defBody s_Pieces_more) (defScope s_Pieces_more) .none kV_Pieces_more dc_Pieces_more pm_Pieces_more an_Pieces_more cd_Pieces_more ct_Pieces_more), sl_Pieces_more⟩) (c_Pieces_more : PySem.W.codeIn K cd_Pieces_more "Pieces.more" = true) (k_Pieces_more : PySem.W.keepIn K (.ref f_Pieces_more) = true)
    (a_Pieces_end : PySem.W.findIn K (.ref o_Pieces) "end" = some (some (.ref f_Pieces_end))) (i_Pieces_end : PySem.W.isFn K (.ref f_Pieces_end) = true) (l_Pieces_end : K.lookup f_Pieces_end = some ⟨oc_Pieces_end, od_Pieces_end, .func (PySem.W.fnOf "end" "Pieces.end" (defArgs s_Pieces_end) (defBody s_Pieces_end) (defScope s_Pieces_end) .none kV_Pieces_end dc_Pieces_end pm_Pieces_end an_Pieces_end cd_Pieces_end ct_Pieces_end), sl_Pieces_end⟩) (c_Pieces_end : PySem.W.codeIn K cd_Pieces_end "Pieces.end" = true) (k_Pieces_end : PySem.W.keepIn K (.ref f_Pieces_end) = true)
    (a_Pieces_begin_sum : PySem.W.findIn K (.ref o_Pieces) "begin_sum" = some (some (.ref f_Pieces_begin_sum))) (i_Pieces_begin_sum : PySem.W.isFn K (.ref f_Pieces_begin_sum) = true) (l_Pieces_begin_sum : K.lookup f_Pieces_begin_sum = some ⟨oc_Pieces_begin_sum, od_Pieces_begin_sum, .func (PySem.W.fnOf "begin_sum" "Pieces.begin_sum" (defArgs s_Pieces_begin_sum) (defBody s_Pieces_begin_sum) (defScope s_Pieces_begin_sum) .none kV_Pieces_begin_sum dc_Pieces_begin_sum pm_Pieces_begin_sum an_Pieces_begin_sum cd_Pieces_begin_sum ct_Pieces_begin_sum), sl_Pieces_begin_sum⟩) (c_Pieces_begin_sum : PySem.W.codeIn K cd_Pieces_begin_sum "Pieces.begin_sum" = true) (k_Pieces_begin_sum : PySem.W.keepIn K (.ref f_Pieces_begin_sum) = true)
    (a_Pieces_go_on_sum : PySem.W.findIn K (.ref o_Pieces) "go_on_sum" = some (some (.ref f_Pieces_go_on_sum))) (i_Pieces_go_on_sum : PySem.W.isFn K (.ref f_Pieces_go_on_sum) = true) (l_Pieces_go_on_sum : K.lookup f_Pieces_go_on_sum = some ⟨oc_Pieces_go_on_sum, od_Pieces_go_on_sum, .func (PySem.W.fnOf "go_on_sum" "Pieces.go_on_sum" (defArgs s_Pieces_go_on_sum) (defBody s_Pieces_go_on_sum) (defScope s_Pieces_go_on_sum) .none kV_Pieces_go_on_sum dc_Pieces_go_on_sum pm_Pieces_go_on_sum an_Pieces_go_on_sum cd_Pieces_go_on_sum ct_Pieces_go_on_sum), sl_Pieces_go_on_sum⟩) (c_Pieces_go_on_sum : PySem.W.codeIn K cd_Pieces_go_on_sum "Pieces.go_on_sum" = true) (k_Pieces_go_on_sum : PySem.W.keepIn K (.ref f_Pieces_go_on_sum) = true)
    (a_Pieces_tell_sum : PySem.W.findIn K (.ref o_Pieces) "tell_sum" = some (some (.ref f_Pieces_tell_sum))) (i_Pieces_tell_sum : PySem.W.isFn K (.ref f_Pieces_tell_sum) = true) (l_Pieces_tell_sum : K.lookup f_Pieces_tell_sum = some ⟨oc_Pieces_tell_sum, od_Pieces_tell_sum, .func (PySem.W.fnOf "tell_sum" "Pieces.tell_sum" (defArgs s_Pieces_tell_sum) (defBody s_Pieces_tell_sum) (defScope s_Pieces_tell_sum) .none kV_Pieces_tell_sum dc_Pieces_tell_sum pm_Pieces_tell_sum an_Pieces_tell_sum cd_Pieces_tell_sum ct_Pieces_tell_sum), sl_Pieces_tell_sum⟩) (c_Pieces_tell_sum : PySem.W.codeIn K cd_Pieces_tell_sum "Pieces.tell_sum" = true) (k_Pieces_tell_sum : PySem.W.keepIn K (.ref f_Pieces_tell_sum) = true)
    (a_Pieces_take : PySem.W.findIn K (.ref o_Pieces) "take" = some (some (.ref f_Pieces_take))) (i_Pieces_take : PySem.W.isFn K (.ref f_Pieces_take) = true) (l_Pieces_take : K.lookup f_Pieces_take = some ⟨oc_Pieces_take, od_Pieces_take, .func (PySem.W.fnOf "take" "Pieces.take" (defArgs s_Pieces_take) (defBody s_Pieces_take) (defScope s_Pieces_take) .none kV_Pieces_take dc_Pieces_take pm_Pieces_take an_Pieces_take cd_Pieces_take ct_Pieces_take), sl_Pieces_take⟩) (c_Pieces_take : PySem.W.codeIn K cd_Pieces_take "Pieces.take" = true) (k_Pieces_take : PySem.W.keepIn K (.ref f_Pieces_take) = true)
    (a_lay_out : PySem.W.nsIn K mainGlobals "lay_out" = some (some (.ref f_lay_out))) (l_lay_out : K.lookup f_lay_out = some ⟨oc_lay_out, od_lay_out, .func (PySem.W.fnOf "lay_out" "lay_out" (defArgs s_lay_out) (defBody s_lay_out) (defScope s_lay_out) .none kV_lay_out dc_lay_out pm_lay_out an_lay_out cd_lay_out ct_lay_out), sl_lay_out⟩) (c_lay_out : PySem.W.codeIn K cd_lay_out "lay_out" = true) (k_lay_out : PySem.W.keepIn K (.ref f_lay_out) = true)
    (a_pieces : PySem.W.nsIn K mainGlobals "pieces" = some (some (.ref f_pieces))) (l_pieces : K.lookup f_pieces = some ⟨oc_pieces, od_pieces, .func (PySem.W.fnOf "pieces" "pieces" (defArgs s_pieces) (defBody s_pieces) (defScope s_pieces) .none kV_pieces dc_pieces pm_pieces an_pieces cd_pieces ct_pieces), sl_pieces⟩) (c_pieces : PySem.W.codeIn K cd_pieces "pieces" = true) (k_pieces : PySem.W.keepIn K (.ref f_pieces) = true)
    (a_KEY_LENGTHS : PySem.W.nsIn K mainGlobals "KEY_LENGTHS" = some (some (.ref t_KEY_LENGTHS))) (l_KEY_LENGTHS : K.lookup t_KEY_LENGTHS = some ⟨.type "tuple", od_KEY_LENGTHS, .seq its_KEY_LENGTHS n_KEY_LENGTHS, sl_KEY_LENGTHS⟩) (v_KEY_LENGTHS : tupVals its_KEY_LENGTHS [16, 24, 32] = true)
    (a_SUBSTITUTE : PySem.W.nsIn K mainGlobals "SUBSTITUTE" = some (some (.ref t_SUBSTITUTE))) (l_SUBSTITUTE : K.lookup t_SUBSTITUTE = some ⟨.type "tuple", od_SUBSTITUTE, .seq its_SUBSTITUTE n_SUBSTITUTE, sl_SUBSTITUTE⟩) (v_SUBSTITUTE : tupVals its_SUBSTITUTE [99, 124, 119, 123, 242, 107, 111, 197, 48, 1, 103, 43, 254, 215, 171, 118, 202, 130, 201, 125, 250, 89, 71, 240, 173, 212, 162, 175, 156, 164, 114, 192, 183, 253, 147, 38, 54, 63, 247, 204, 52, 165, 229, 241, 113, 216, 49, 21, 4, 199, 35, 195, 24, 150, 5, 154, 7, 18, 128, 226, 235, 39, 178, 117, 9, 131, 44, 26, 27, 110, 90, 160, 82, 59, 214, 179, 41, 227, 47, 132, 83, 209, 0, 237, 32, 252, 177, 91, 106, 203, 190, 57, 74, 76, 88, 207, 208, 239, 170, 251, 67, 77, 51, 133, 69, 249, 2, 127, 80, 60, 159, 168, 81, 163, 64, 143, 146, 157, 56, 245, 188, 182, 218, 33, 16, 255, 243, 210, 205, 12, 19, 236, 95, 151, 68, 23, 196, 167, 126, 61, 100, 93, 25, 115, 96, 129, 79, 220, 34, 42, 144, 136, 70, 238, 184, 20, 222, 94, 11, 219, 224, 50, 58, 10, 73, 6, 36, 92, 194, 211, 172, 98, 145, 149, 228, 121, 231, 200, 55, 109, 141, 213, 78, 169, 108, 86, 244, 234, 101, 122, 174, 8, 186, 120, 37, 46, 28, 166, 180, 198, 232, 221, 116, 31, 75, 189, 139, 138, 112, 62, 181, 102, 72, 3, 246, 14, 97, 53, 87, 185, 134, 193, 29, 158, 225, 248, 152, 17, 105, 217, 142, 148, 155, 30, 135, 233, 206, 85, 40, 223, 140, 161, 137, 13, 191, 230, 66, 104, 65, 153, 45, 15, 176, 84, 187, 22] = true)
    (a_SHIFT : PySem.W.nsIn K mainGlobals "SHIFT" = some (some (.ref t_SHIFT))) (l_SHIFT : K.lookup t_SHIFT = some ⟨.type "tuple", od_SHIFT, .seq its_SHIFT n_SHIFT, sl_SHIFT⟩) (v_SHIFT : tupVals its_SHIFT [0, 5, 10, 15, 4, 9, 14, 3, 8, 13, 2, 7, 12, 1, 6, 11] = true)
    (a_KINDS : PySem.W.nsIn K mainGlobals "KINDS" = some (some (.ref t_KINDS))) (l_KINDS : K.lookup t_KINDS = some ⟨.type "tuple", od_KINDS, .seq its_KINDS n_KINDS, sl_KINDS⟩) (v_KINDS : tupVals its_KINDS [1, 2] = true)
    (a_START_1 : PySem.W.nsIn K mainGlobals "START_1" = some (some (.ref t_START_1))) (l_START_1 : K.lookup t_START_1 = some ⟨.type "tuple", od_START_1, .seq its_START_1 n_START_1, sl_START_1⟩) (v_START_1 : tupVals its_START_1 [1732584193, 4023233417, 2562383102, 271733878, 3285377520] = true)
    (a_START_2 : PySem.W.nsIn K mainGlobals "START_2" = some (some (.ref t_START_2))) (l_START_2 : K.lookup t_START_2 = some ⟨.type "tuple", od_START_2, .seq its_START_2 n_START_2, sl_START_2⟩) (v_START_2 : tupVals its_START_2 [1779033703, 3144134277, 1013904242, 2773480762, 1359893119, 2600822924, 528734635, 1541459225] = true)
    (a_CONSTANTS_1 : PySem.W.nsIn K mainGlobals "CONSTANTS_1" = some (some (.ref t_CONSTANTS_1))) (l_CONSTANTS_1 : K.lookup t_CONSTANTS_1 = some ⟨.type "tuple", od_CONSTANTS_1, .seq its_CONSTANTS_1 n_CONSTANTS_1, sl_CONSTANTS_1⟩) (v_CONSTANTS_1 : tupVals its_CONSTANTS_1 [1518500249, 1859775393, 2400959708, 3395469782] = true)
    (a_CONSTANTS_2 : PySem.W.nsIn K mainGlobals "CONSTANTS_2" = some (some (.ref t_CONSTANTS_2))) (l_CONSTANTS_2 : K.lookup t_CONSTANTS_2 = some ⟨.type "tuple", od_CONSTANTS_2, .seq its_CONSTANTS_2 n_CONSTANTS_2, sl_CONSTANTS_2⟩) (v_CONSTANTS_2 : tupVals its_CONSTANTS_2 [1116352408, 1899447441, 3049323471, 3921009573, 961987163, 1508970993, 2453635748, 2870763221, 3624381080, 310598401, 607225278, 1426881987, 1925078388, 2162078206, 2614888103, 3248222580, 3835390401, 4022224774, 264347078, 604807628, 770255983, 1249150122, 1555081692, 1996064986, 2554220882, 2821834349, 2952996808, 3210313671, 3336571891, 3584528711, 113926993, 338241895, 666307205, 773529912, 1294757372, 1396182291, 1695183700, 1986661051, 2177026350, 2456956037, 2730485921, 2820302411, 3259730800, 3345764771, 3516065817, 3600352804, 4094571909, 275423344, 430227734, 506948616, 659060556, 883997877, 958139571, 1322822218, 1537002063, 1747873779, 1955562222, 2024104815, 2227730452, 2361852424, 2428436474, 2756734187, 3204031479, 3329325298] = true)
    (a_BLOCK : PySem.W.nsIn K mainGlobals "BLOCK" = some (some (.int 64 i_BLOCK)))
    (a_MASK : PySem.W.nsIn K mainGlobals "MASK" = some (some (.int 4294967295 i_MASK)))
    (a_TAG_LENGTH : PySem.W.nsIn K mainGlobals "TAG_LENGTH" = some (some (.int 16 i_TAG_LENGTH)))
    (a_OVERFLOW : PySem.W.nsIn K mainGlobals "OVERFLOW" = some (some (.int 299076299051606071403356588563077529600 i_OVERFLOW)))
    (z_range : PySem.W.nsIn K mainGlobals "range" = some none)
    (z_len : PySem.W.nsIn K mainGlobals "len" = some none)
    (z_list : PySem.W.nsIn K mainGlobals "list" = some none)
    (z_zip : PySem.W.nsIn K mainGlobals "zip" = some none) :
    ∃ fd : FuncData, (∀ (s : Shared) (us : List Value), us.length = (["calls"] : List Str).length → BindsTo s fd ⟨us, []⟩ ((["calls"] : List Str).zip us)) ∧ ∀ base : Heap, K.In base → base.Ns mainGlobals mg → FnOk P w K mg base CX0 9 fa fd ["calls"] (sp_pieces K) := by
  have e := hfa.symm.trans (PySem.W.mg_of X G a_pieces)
  cases e
  let ad : Adr := ⟨t_KEY_LENGTHS, t_SUBSTITUTE, t_SHIFT, t_KINDS, t_START_1, t_START_2, t_CONSTANTS_1, t_CONSTANTS_2, o_Summing, o_Sealing, o_Pieces⟩
  have T : Txt K mg ad := ⟨PySem.W.mg_of X G a_KEY_LENGTHS, tup_of l_KEY_LENGTHS v_KEY_LENGTHS, PySem.W.mg_of X G a_SUBSTITUTE, tup_of l_SUBSTITUTE v_SUBSTITUTE, PySem.W.mg_of X G a_SHIFT, tup_of l_SHIFT v_SHIFT, PySem.W.mg_of X G a_KINDS, tup_of l_KINDS v_KINDS, PySem.W.mg_of X G a_START_1, tup_of l_START_1 v_START_1, PySem.W.mg_of X G a_START_2, tup_of l_START_2 v_START_2, PySem.W.mg_of X G a_CONSTANTS_1, tup_of l_CONSTANTS_1 v_CONSTANTS_1, PySem.W.mg_of X G a_CONSTANTS_2, tup_of l_CONSTANTS_2 v_CONSTANTS_2, ⟨_, PySem.W.mg_of X G a_BLOCK⟩, ⟨_, PySem.W.mg_of X G a_MASK⟩, ⟨_, PySem.W.mg_of X G a_TAG_LENGTH⟩, ⟨_, PySem.W.mg_of X G a_OVERFLOW⟩, PySem.W.mg_of X G g_Summing, ⟨pg_Summing, hd_Summing, po_Summing, sa_Summing⟩, n_kind_Summing, n_state_Summing, n_waiting_Summing, n_summed_length_Summing, PySem.W.mg_of X G g_Sealing, ⟨pg_Sealing, hd_Sealing, po_Sealing, sa_Sealing⟩, n_round_keys_Sealing, n_factor_Sealing, n_nonce_Sealing, n_opening_Sealing, n_stream_Sealing, n_beside_length_Sealing, n_text_length_Sealing, n_text_begun_Sealing, n_tagged_Sealing, n_waiting_Sealing, PySem.W.mg_of X G g_Pieces, ⟨pg_Pieces, hd_Pieces, po_Pieces, sa_Pieces⟩, n_sealing_Pieces, n_summing_Pieces, PySem.W.mg_none_of X G z_range, PySem.W.mg_none_of X G z_len, PySem.W.mg_none_of X G z_list, PySem.W.mg_none_of X G z_zip⟩
  have F_double := fun_mk (st := s_double) l_double c_double k_double
  have b_double := F_double.binds (ps := ["byte"]) fun _ _ _ _ _ _ us hl => match us, hl with | [_], _ => rfl
  have F_mix := fun_mk (st := s_mix) l_mix c_mix k_mix
  have b_mix := F_mix.binds (ps := ["state"]) fun _ _ _ _ _ _ us hl => match us, hl with | [_], _ => rfl
  have F_add_key := fun_mk (st := s_add_key) l_add_key c_add_key k_add_key
  have b_add_key := F_add_key.binds (ps := ["state", "round_keys", "at"]) fun _ _ _ _ _ _ us hl => match us, hl with | [_, _, _], _ => rfl
  have F_expand_key := fun_mk (st := s_expand_key) l_expand_key c_expand_key k_expand_key
  have b_expand_key := F_expand_key.binds (ps := ["key"]) fun _ _ _ _ _ _ us hl => match us, hl with | [_], _ => rfl
  have F_encipher := fun_mk (st := s_encipher) l_encipher c_encipher k_encipher
  have b_encipher := F_encipher.binds (ps := ["block", "round_keys"]) fun _ _ _ _ _ _ us hl => match us, hl with | [_, _], _ => rfl
  have F_number_of := fun_mk (st := s_number_of) l_number_of c_number_of k_number_of
  have b_number_of := F_number_of.binds (ps := ["data"]) fun _ _ _ _ _ _ us hl => match us, hl with | [_], _ => rfl
  have F_bytes_of := fun_mk (st := s_bytes_of) l_bytes_of c_bytes_of k_bytes_of
  have b_bytes_of := F_bytes_of.binds (ps := ["number", "count"]) fun _ _ _ _ _ _ us hl => match us, hl with | [_, _], _ => rfl
  have F_turn_left := fun_mk (st := s_turn_left) l_turn_left c_turn_left k_turn_left
  have b_turn_left := F_turn_left.binds (ps := ["word", "count"]) fun _ _ _ _ _ _ us hl => match us, hl with | [_, _], _ => rfl
  have F_turn_thrice := fun_mk (st := s_turn_thrice) l_turn_thrice c_turn_thrice k_turn_thrice
  have b_turn_thrice := F_turn_thrice.binds (ps := ["word", "first", "second", "third"]) fun _ _ _ _ _ _ us hl => match us, hl with | [_, _, _, _], _ => rfl
  have F_turn_and_shift := fun_mk (st := s_turn_and_shift) l_turn_and_shift c_turn_and_shift k_turn_and_shift
  have b_turn_and_shift := F_turn_and_shift.binds (ps := ["word", "first", "second", "shift"]) fun _ _ _ _ _ _ us hl => match us, hl with | [_, _, _, _], _ => rfl
  have F_words_of := fun_mk (st := s_words_of) l_words_of c_words_of k_words_of
  have b_words_of := F_words_of.binds (ps := ["block"]) fun _ _ _ _ _ _ us hl => match us, hl with | [_], _ => rfl
  have F_spread_block_1 := fun_mk (st := s_spread_block_1) l_spread_block_1 c_spread_block_1 k_spread_block_1
  have b_spread_block_1 := F_spread_block_1.binds (ps := ["block"]) fun _ _ _ _ _ _ us hl => match us, hl with | [_], _ => rfl
  have F_choose_1 := fun_mk (st := s_choose_1) l_choose_1 c_choose_1 k_choose_1
  have b_choose_1 := F_choose_1.binds (ps := ["at", "b", "c", "d"]) fun _ _ _ _ _ _ us hl => match us, hl with | [_, _, _, _], _ => rfl
  have F_add_block_1 := fun_mk (st := s_add_block_1) l_add_block_1 c_add_block_1 k_add_block_1
  have b_add_block_1 := F_add_block_1.binds (ps := ["state", "block"]) fun _ _ _ _ _ _ us hl => match us, hl with | [_, _], _ => rfl
  have F_spread_block_2 := fun_mk (st := s_spread_block_2) l_spread_block_2 c_spread_block_2 k_spread_block_2
  have b_spread_block_2 := F_spread_block_2.binds (ps := ["block"]) fun _ _ _ _ _ _ us hl => match us, hl with | [_], _ => rfl
  have F_add_block_2 := fun_mk (st := s_add_block_2) l_add_block_2 c_add_block_2 k_add_block_2
  have b_add_block_2 := F_add_block_2.binds (ps := ["state", "block"]) fun _ _ _ _ _ _ us hl => match us, hl with | [_, _], _ => rfl
  have F_add_blocks := fun_mk (st := s_add_blocks) l_add_blocks c_add_blocks k_add_blocks
  have b_add_blocks := F_add_blocks.binds (ps := ["kind", "state", "data"]) fun _ _ _ _ _ _ us hl => match us, hl with | [_, _, _], _ => rfl
  have F_Summing_init := fun_mk (st := s_Summing_init) l_Summing_init c_Summing_init k_Summing_init
  have b_Summing_init := F_Summing_init.binds (ps := ["self", "kind"]) fun _ _ _ _ _ _ us hl => match us, hl with | [_, _], _ => rfl
  have F_Summing_add := fun_mk (st := s_Summing_add) l_Summing_add c_Summing_add k_Summing_add
  have b_Summing_add := F_Summing_add.binds (ps := ["self", "data"]) fun _ _ _ _ _ _ us hl => match us, hl with | [_, _], _ => rfl
  have F_Summing_told := fun_mk (st := s_Summing_told) l_Summing_told c_Summing_told k_Summing_told
  have b_Summing_told := F_Summing_told.binds (ps := ["self"]) fun _ _ _ _ _ _ us hl => match us, hl with | [_], _ => rfl
  have F_multiply := fun_mk (st := s_multiply) l_multiply c_multiply k_multiply
  have b_multiply := F_multiply.binds (ps := ["block", "factor"]) fun _ _ _ _ _ _ us hl => match us, hl with | [_, _], _ => rfl
  have F_Sealing_init := fun_mk (st := s_Sealing_init) l_Sealing_init c_Sealing_init k_Sealing_init
  have b_Sealing_init := F_Sealing_init.binds (ps := ["self", "key", "nonce", "opening"]) fun _ _ _ _ _ _ us hl => match us, hl with | [_, _, _, _], _ => rfl
  have F_Sealing_enciphered_count := fun_mk (st := s_Sealing_enciphered_count) l_Sealing_enciphered_count c_Sealing_enciphered_count k_Sealing_enciphered_count
  have b_Sealing_enciphered_count := F_Sealing_enciphered_count.binds (ps := ["self", "count"]) fun _ _ _ _ _ _ us hl => match us, hl with | [_, _], _ => rfl
  have F_Sealing_hold := fun_mk (st := s_Sealing_hold) l_Sealing_hold c_Sealing_hold k_Sealing_hold
  have b_Sealing_hold := F_Sealing_hold.binds (ps := ["self", "data"]) fun _ _ _ _ _ _ us hl => match us, hl with | [_, _], _ => rfl
  have F_Sealing_fill_block := fun_mk (st := s_Sealing_fill_block) l_Sealing_fill_block c_Sealing_fill_block k_Sealing_fill_block
  have b_Sealing_fill_block := F_Sealing_fill_block.binds (ps := ["self"]) fun _ _ _ _ _ _ us hl => match us, hl with | [_], _ => rfl
  have F_Sealing_take_beside := fun_mk (st := s_Sealing_take_beside) l_Sealing_take_beside c_Sealing_take_beside k_Sealing_take_beside
  have b_Sealing_take_beside := F_Sealing_take_beside.binds (ps := ["self", "data"]) fun _ _ _ _ _ _ us hl => match us, hl with | [_, _], _ => rfl
  have F_Sealing_run_stream := fun_mk (st := s_Sealing_run_stream) l_Sealing_run_stream c_Sealing_run_stream k_Sealing_run_stream
  have b_Sealing_run_stream := F_Sealing_run_stream.binds (ps := ["self", "data"]) fun _ _ _ _ _ _ us hl => match us, hl with | [_, _], _ => rfl
  have F_Sealing_take_text := fun_mk (st := s_Sealing_take_text) l_Sealing_take_text c_Sealing_take_text k_Sealing_take_text
  have b_Sealing_take_text := F_Sealing_take_text.binds (ps := ["self", "data"]) fun _ _ _ _ _ _ us hl => match us, hl with | [_, _], _ => rfl
  have F_Sealing_tag := fun_mk (st := s_Sealing_tag) l_Sealing_tag c_Sealing_tag k_Sealing_tag
  have b_Sealing_tag := F_Sealing_tag.binds (ps := ["self"]) fun _ _ _ _ _ _ us hl => match us, hl with | [_], _ => rfl
  have F_Pieces_init := fun_mk (st := s_Pieces_init) l_Pieces_init c_Pieces_init k_Pieces_init
  have b_Pieces_init := F_Pieces_init.binds (ps := ["self"]) fun _ _ _ _ _ _ us hl => match us, hl with | [_], _ => rfl
  have F_Pieces_begin := fun_mk (st := s_Pieces_begin) l_Pieces_begin c_Pieces_begin k_Pieces_begin
  have b_Pieces_begin := F_Pieces_begin.binds (ps := ["self", "length", "back", "rest"]) fun _ _ _ _ _ _ us hl => match us, hl with | [_, _, _, _], _ => rfl
  have F_Pieces_go_with := fun_mk (st := s_Pieces_go_with) l_Pieces_go_with c_Pieces_go_with k_Pieces_go_with
  have b_Pieces_go_with := F_Pieces_go_with.binds (ps := ["self", "data"]) fun _ _ _ _ _ _ us hl => match us, hl with | [_, _], _ => rfl
  have F_Pieces_more := fun_mk (st := s_Pieces_more) l_Pieces_more c_Pieces_more k_Pieces_more
  have b_Pieces_more := F_Pieces_more.binds (ps := ["self", "data"]) fun _ _ _ _ _ _ us hl => match us, hl with | [_, _], _ => rfl
  have F_Pieces_end := fun_mk (st := s_Pieces_end) l_Pieces_end c_Pieces_end k_Pieces_end
  have b_Pieces_end := F_Pieces_end.binds (ps := ["self"]) fun _ _ _ _ _ _ us hl => match us, hl with | [_], _ => rfl
  have F_Pieces_begin_sum := fun_mk (st := s_Pieces_begin_sum) l_Pieces_begin_sum c_Pieces_begin_sum k_Pieces_begin_sum
  have b_Pieces_begin_sum := F_Pieces_begin_sum.binds (ps := ["self", "kind"]) fun _ _ _ _ _ _ us hl => match us, hl with | [_, _], _ => rfl
  have F_Pieces_go_on_sum := fun_mk (st := s_Pieces_go_on_sum) l_Pieces_go_on_sum c_Pieces_go_on_sum k_Pieces_go_on_sum
  have b_Pieces_go_on_sum := F_Pieces_go_on_sum.binds (ps := ["self", "data"]) fun _ _ _ _ _ _ us hl => match us, hl with | [_, _], _ => rfl
  have F_Pieces_tell_sum := fun_mk (st := s_Pieces_tell_sum) l_Pieces_tell_sum c_Pieces_tell_sum k_Pieces_tell_sum
  have b_Pieces_tell_sum := F_Pieces_tell_sum.binds (ps := ["self"]) fun _ _ _ _ _ _ us hl => match us, hl with | [_], _ => rfl
  have F_Pieces_take := fun_mk (st := s_Pieces_take) l_Pieces_take c_Pieces_take k_Pieces_take
  have b_Pieces_take := F_Pieces_take.binds (ps := ["self", "call"]) fun _ _ _ _ _ _ us hl => match us, hl with | [_, _], _ => rfl
  have F_lay_out := fun_mk (st := s_lay_out) l_lay_out c_lay_out k_lay_out
  have b_lay_out := F_lay_out.binds (ps := ["rows"]) fun _ _ _ _ _ _ us hl => match us, hl with | [_], _ => rfl
  have F_pieces := fun_mk (st := s_pieces) l_pieces c_pieces k_pieces
  refine ⟨PySem.W.fnOf "pieces" "pieces" (defArgs s_pieces) (defBody s_pieces) (defScope s_pieces) .none kV_pieces dc_pieces pm_pieces an_pieces cd_pieces ct_pieces, fun s us hu => match us, hu with | [_], _ => .of_eq rfl, fun base _ _ => ?_⟩
  have C_double : Callee P w K mg base 1 "double" ["byte"] (sp_double K) := ⟨_, _, ok_double F_double T, PySem.W.mg_of X G a_double, k_double, b_double⟩
  have C_mix : Callee P w K mg base 2 "mix" ["state"] (sp_mix K) := ⟨_, _, ok_mix F_mix T C_double, PySem.W.mg_of X G a_mix, k_mix, b_mix⟩
  have C_add_key : Callee P w K mg base 1 "add_key" ["state", "round_keys", "at"] (sp_add_key K) := ⟨_, _, ok_add_key F_add_key T, PySem.W.mg_of X G a_add_key, k_add_key, b_add_key⟩
  have C_expand_key : Callee P w K mg base 2 "expand_key" ["key"] (sp_expand_key K) := ⟨_, _, ok_expand_key F_expand_key T C_double, PySem.W.mg_of X G a_expand_key, k_expand_key, b_expand_key⟩
  have C_encipher : Callee P w K mg base 3 "encipher" ["block", "round_keys"] (sp_encipher K) := ⟨_, _, ok_encipher F_encipher T C_mix C_add_key, PySem.W.mg_of X G a_encipher, k_encipher, b_encipher⟩
  have C_number_of : Callee P w K mg base 1 "number_of" ["data"] (sp_number_of K) := ⟨_, _, ok_number_of F_number_of T, PySem.W.mg_of X G a_number_of, k_number_of, b_number_of⟩
  have C_bytes_of : Callee P w K mg base 1 "bytes_of" ["number", "count"] (sp_bytes_of K) := ⟨_, _, ok_bytes_of F_bytes_of T, PySem.W.mg_of X G a_bytes_of, k_bytes_of, b_bytes_of⟩
  have C_turn_left : Callee P w K mg base 1 "turn_left" ["word", "count"] (sp_turn_left K) := ⟨_, _, ok_turn_left F_turn_left T, PySem.W.mg_of X G a_turn_left, k_turn_left, b_turn_left⟩
  have C_turn_thrice : Callee P w K mg base 1 "turn_thrice" ["word", "first", "second", "third"] (sp_turn_thrice K) := ⟨_, _, ok_turn_thrice F_turn_thrice T, PySem.W.mg_of X G a_turn_thrice, k_turn_thrice, b_turn_thrice⟩
  have C_turn_and_shift : Callee P w K mg base 1 "turn_and_shift" ["word", "first", "second", "shift"] (sp_turn_and_shift K) := ⟨_, _, ok_turn_and_shift F_turn_and_shift T, PySem.W.mg_of X G a_turn_and_shift, k_turn_and_shift, b_turn_and_shift⟩
  have C_words_of : Callee P w K mg base 2 "words_of" ["block"] (sp_words_of K) := ⟨_, _, ok_words_of F_words_of T C_number_of, PySem.W.mg_of X G a_words_of, k_words_of, b_words_of⟩
  have C_spread_block_1 : Callee P w K mg base 3 "spread_block_1" ["block"] (sp_spread_block_1 K) := ⟨_, _, ok_spread_block_1 F_spread_block_1 T C_turn_left C_words_of, PySem.W.mg_of X G a_spread_block_1, k_spread_block_1, b_spread_block_1⟩
  have C_choose_1 : Callee P w K mg base 1 "choose_1" ["at", "b", "c", "d"] (sp_choose_1 K) := ⟨_, _, ok_choose_1 F_choose_1 T, PySem.W.mg_of X G a_choose_1, k_choose_1, b_choose_1⟩
  have C_add_block_1 : Callee P w K mg base 4 "add_block_1" ["state", "block"] (sp_add_block_1 K) := ⟨_, _, ok_add_block_1 F_add_block_1 T C_turn_left C_spread_block_1 C_choose_1, PySem.W.mg_of X G a_add_block_1, k_add_block_1, b_add_block_1⟩
  have C_spread_block_2 : Callee P w K mg base 3 "spread_block_2" ["block"] (sp_spread_block_2 K) := ⟨_, _, ok_spread_block_2 F_spread_block_2 T C_turn_and_shift C_words_of, PySem.W.mg_of X G a_spread_block_2, k_spread_block_2, b_spread_block_2⟩
  have C_add_block_2 : Callee P w K mg base 4 "add_block_2" ["state", "block"] (sp_add_block_2 K) := ⟨_, _, ok_add_block_2 F_add_block_2 T C_turn_thrice C_spread_block_2, PySem.W.mg_of X G a_add_block_2, k_add_block_2, b_add_block_2⟩
  have C_add_blocks : Callee P w K mg base 5 "add_blocks" ["kind", "state", "data"] (sp_add_blocks K) := ⟨_, _, ok_add_blocks F_add_blocks T C_add_block_1 C_add_block_2, PySem.W.mg_of X G a_add_blocks, k_add_blocks, b_add_blocks⟩
  have C_Summing_init : Maker P w K mg base 1 ad.Summing ["self", "kind"] (sp_Summing_init K ad) := ⟨_, _, ok_Summing_init F_Summing_init T, ⟨mk_Summing, a_Summing_init, i_Summing_init, kc_Summing⟩, b_Summing_init⟩
  have C_Summing_add : Method P w K mg base 6 ad.Summing "add" ["self", "data"] (sp_Summing_add K ad) := ⟨_, _, ok_Summing_add F_Summing_add T C_add_blocks, ⟨a_Summing_add, i_Summing_add, k_Summing_add⟩, b_Summing_add⟩
  have C_Summing_told : Method P w K mg base 6 ad.Summing "told" ["self"] (sp_Summing_told K ad) := ⟨_, _, ok_Summing_told F_Summing_told T C_bytes_of C_add_blocks, ⟨a_Summing_told, i_Summing_told, k_Summing_told⟩, b_Summing_told⟩
  have C_multiply : Callee P w K mg base 1 "multiply" ["block", "factor"] (sp_multiply K) := ⟨_, _, ok_multiply F_multiply T, PySem.W.mg_of X G a_multiply, k_multiply, b_multiply⟩
  have C_Sealing_init : Maker P w K mg base 4 ad.Sealing ["self", "key", "nonce", "opening"] (sp_Sealing_init K ad) := ⟨_, _, ok_Sealing_init F_Sealing_init T C_expand_key C_encipher C_number_of, ⟨mk_Sealing, a_Sealing_init, i_Sealing_init, kc_Sealing⟩, b_Sealing_init⟩
  have C_Sealing_enciphered_count : Method P w K mg base 4 ad.Sealing "enciphered_count" ["self", "count"] (sp_Sealing_enciphered_count K ad) := ⟨_, _, ok_Sealing_enciphered_count F_Sealing_enciphered_count T C_encipher C_bytes_of, ⟨a_Sealing_enciphered_count, i_Sealing_enciphered_count, k_Sealing_enciphered_count⟩, b_Sealing_enciphered_count⟩
  have C_Sealing_hold : Method P w K mg base 2 ad.Sealing "hold" ["self", "data"] (sp_Sealing_hold K ad) := ⟨_, _, ok_Sealing_hold F_Sealing_hold T C_number_of C_multiply, ⟨a_Sealing_hold, i_Sealing_hold, k_Sealing_hold⟩, b_Sealing_hold⟩
  have C_Sealing_fill_block : Method P w K mg base 3 ad.Sealing "fill_block" ["self"] (sp_Sealing_fill_block K ad) := ⟨_, _, ok_Sealing_fill_block F_Sealing_fill_block T C_Sealing_hold, ⟨a_Sealing_fill_block, i_Sealing_fill_block, k_Sealing_fill_block⟩, b_Sealing_fill_block⟩
  have C_Sealing_take_beside : Method P w K mg base 3 ad.Sealing "take_beside" ["self", "data"] (sp_Sealing_take_beside K ad) := ⟨_, _, ok_Sealing_take_beside F_Sealing_take_beside T C_Sealing_hold, ⟨a_Sealing_take_beside, i_Sealing_take_beside, k_Sealing_take_beside⟩, b_Sealing_take_beside⟩
  have C_Sealing_run_stream : Method P w K mg base 5 ad.Sealing "run_stream" ["self", "data"] (sp_Sealing_run_stream K ad) := ⟨_, _, ok_Sealing_run_stream F_Sealing_run_stream T C_Sealing_enciphered_count, ⟨a_Sealing_run_stream, i_Sealing_run_stream, k_Sealing_run_stream⟩, b_Sealing_run_stream⟩
  have C_Sealing_take_text : Method P w K mg base 6 ad.Sealing "take_text" ["self", "data"] (sp_Sealing_take_text K ad) := ⟨_, _, ok_Sealing_take_text F_Sealing_take_text T C_Sealing_hold C_Sealing_fill_block C_Sealing_run_stream, ⟨a_Sealing_take_text, i_Sealing_take_text, k_Sealing_take_text⟩, b_Sealing_take_text⟩
  have C_Sealing_tag : Method P w K mg base 5 ad.Sealing "tag" ["self"] (sp_Sealing_tag K ad) := ⟨_, _, ok_Sealing_tag F_Sealing_tag T C_number_of C_bytes_of C_Sealing_enciphered_count C_Sealing_hold C_Sealing_fill_block, ⟨a_Sealing_tag, i_Sealing_tag, k_Sealing_tag⟩, b_Sealing_tag⟩
  have C_Pieces_init : Maker P w K mg base 1 ad.Pieces ["self"] (sp_Pieces_init K ad) := ⟨_, _, ok_Pieces_init F_Pieces_init T, ⟨mk_Pieces, a_Pieces_init, i_Pieces_init, kc_Pieces⟩, b_Pieces_init⟩
  have C_Pieces_begin : Method P w K mg base 6 ad.Pieces "begin" ["self", "length", "back", "rest"] (sp_Pieces_begin K ad) := ⟨_, _, ok_Pieces_begin F_Pieces_begin T C_Sealing_init, ⟨a_Pieces_begin, i_Pieces_begin, k_Pieces_begin⟩, b_Pieces_begin⟩
  have C_Pieces_go_with : Method P w K mg base 4 ad.Pieces "go_with" ["self", "data"] (sp_Pieces_go_with K ad) := ⟨_, _, ok_Pieces_go_with F_Pieces_go_with T C_Sealing_take_beside, ⟨a_Pieces_go_with, i_Pieces_go_with, k_Pieces_go_with⟩, b_Pieces_go_with⟩
  have C_Pieces_more : Method P w K mg base 7 ad.Pieces "more" ["self", "data"] (sp_Pieces_more K ad) := ⟨_, _, ok_Pieces_more F_Pieces_more T C_Sealing_take_text, ⟨a_Pieces_more, i_Pieces_more, k_Pieces_more⟩, b_Pieces_more⟩
  have C_Pieces_end : Method P w K mg base 6 ad.Pieces "end" ["self"] (sp_Pieces_end K ad) := ⟨_, _, ok_Pieces_end F_Pieces_end T C_Sealing_tag, ⟨a_Pieces_end, i_Pieces_end, k_Pieces_end⟩, b_Pieces_end⟩
  have C_Pieces_begin_sum : Method P w K mg base 3 ad.Pieces "begin_sum" ["self", "kind"] (sp_Pieces_begin_sum K ad) := ⟨_, _, ok_Pieces_begin_sum F_Pieces_begin_sum T C_Summing_init, ⟨a_Pieces_begin_sum, i_Pieces_begin_sum, k_Pieces_begin_sum⟩, b_Pieces_begin_sum⟩
  have C_Pieces_go_on_sum : Method P w K mg base 7 ad.Pieces "go_on_sum" ["self", "data"] (sp_Pieces_go_on_sum K ad) := ⟨_, _, ok_Pieces_go_on_sum F_Pieces_go_on_sum T C_Summing_add, ⟨a_Pieces_go_on_sum, i_Pieces_go_on_sum, k_Pieces_go_on_sum⟩, b_Pieces_go_on_sum⟩
  have C_Pieces_tell_sum : Method P w K mg base 7 ad.Pieces "tell_sum" ["self"] (sp_Pieces_tell_sum K ad) := ⟨_, _, ok_Pieces_tell_sum F_Pieces_tell_sum T C_Summing_told, ⟨a_Pieces_tell_sum, i_Pieces_tell_sum, k_Pieces_tell_sum⟩, b_Pieces_tell_sum⟩
  have C_Pieces_take : Method P w K mg base 8 ad.Pieces "take" ["self", "call"] (sp_Pieces_take K ad) := ⟨_, _, ok_Pieces_take F_Pieces_take T C_Pieces_begin C_Pieces_go_with C_Pieces_more C_Pieces_end C_Pieces_begin_sum C_Pieces_go_on_sum C_Pieces_tell_sum, ⟨a_Pieces_take, i_Pieces_take, k_Pieces_take⟩, b_Pieces_take⟩
  have C_lay_out : Callee P w K mg base 1 "lay_out" ["rows"] (sp_lay_out K) := ⟨_, _, ok_lay_out F_lay_out T, PySem.W.mg_of X G a_lay_out, k_lay_out, b_lay_out⟩
  exact ok_pieces F_pieces T C_Pieces_init C_Pieces_take C_lay_out
end
end
end My
open PySem PySem.W PyProof.Rows
theorem PySem.W.Fast.tw1414430563002767950 : True := trivial
theorem PySem.W.Fast.tw1371464688153563312 : True := trivial
theorem PySem.W.Fast.tw17202790127943506501 : True := trivial
theorem PySem.W.Fast.tw3634786537463254876 : True := trivial
theorem PySem.W.Fast.tw14656651875860689638 : True := trivial
theorem PySem.W.Fast.tw9178404452726691443 : True := trivial
theorem PySem.W.Fast.tw626216163267740871 : True := trivial
theorem PySem.W.Fast.tw7110100204097404130 : True := trivial
theorem PySem.W.Fast.tw1137354482655612595 : True := trivial
theorem PySem.W.Fast.tw18042045716744288060 : True := trivial
theorem PySem.W.Fast.tw11214870240157467877 : True := trivial
theorem PySem.W.Fast.tw15018840853341594215 : True := trivial
theorem PySem.W.Fast.tw5483147534136973676 : True := trivial
set_option maxRecDepth 100000 in
set_option maxHeartbeats 0 in
theorem PySem.Challenge.cw_sealedrowsdesk_s05_pieces_holds : PySem.Challenge.rw_sealedrowsdesk_s05_pieces.Holds := by
  w_on; k_headS; (case hw => exact ⟨[.list []], by decide +kernel, by decide +kernel⟩)
  k_fillS
  refine L2.walk_specK (r := PySem.Challenge.rw_sealedrowsdesk_s05_pieces) (k := 9) (CX := L2.CX0) (ps := ["calls"]) (sp := My.sp_pieces) (by decide +kernel) rfl rfl ⟨rfl, by decide, by decide⟩ (fun w h Y => PySem.W.kIn_of Y) ?F ?S (fun _ _ _ _ z => z)
  case F =>
    intro w mg fa h Y KX G hmg
    refine' My.all_mk KX G hmg ?g_Summing ?pg_Summing ?hd_Summing ?po_Summing ?sa_Summing ?mk_Summing ?kc_Summing ?n_kind_Summing ?n_state_Summing ?n_waiting_Summing ?n_summed_length_Summing ?g_Sealing ?pg_Sealing ?hd_Sealing ?po_Sealing ?sa_Sealing ?mk_Sealing ?kc_Sealing ?n_round_keys_Sealing ?n_factor_Sealing ?n_nonce_Sealing ?n_opening_Sealing ?n_stream_Sealing ?n_beside_length_Sealing ?n_text_length_Sealing ?n_text_begun_Sealing ?n_tagged_Sealing ?n_waiting_Sealing ?g_Pieces ?pg_Pieces ?hd_Pieces ?po_Pieces ?sa_Pieces ?mk_Pieces ?kc_Pieces ?n_sealing_Pieces ?n_summing_Pieces ?a_double ?l_double ?c_double ?k_double ?a_mix ?l_mix ?c_mix ?k_mix ?a_add_key ?l_add_key ?c_add_key ?k_add_key ?a_expand_key ?l_expand_key ?c_expand_key ?k_expand_key ?a_encipher ?l_encipher ?c_encipher ?k_encipher ?a_number_of ?l_number_of ?c_number_of ?k_number_of ?a_bytes_of ?l_bytes_of ?c_bytes_of ?k_bytes_of ?a_turn_left ?l_turn_left ?c_turn_left ?k_turn_left ?a_turn_thrice ?l_turn_thrice ?c_turn_thrice ?k_turn_thrice ?a_turn_and_shift ?l_turn_and_shift ?c_turn_and_shift ?k_turn_and_shift ?a_words_of ?l_words_of ?c_words_of ?k_words_of ?a_spread_block_1 ?l_spread_block_1 ?c_spread_block_1 ?k_spread_block_1 ?a_choose_1 ?l_choose_1 ?c_choose_1 ?k_choose_1 ?a_add_block_1 ?l_add_block_1 ?c_add_block_1 ?k_add_block_1 ?a_spread_block_2 ?l_spread_block_2 ?c_spread_block_2 ?k_spread_block_2 ?a_add_block_2 ?l_add_block_2 ?c_add_block_2 ?k_add_block_2 ?a_add_blocks ?l_add_blocks ?c_add_blocks ?k_add_blocks ?a_Summing_init ?i_Summing_init ?l_Summing_init ?c_Summing_init ?k_Summing_init ?a_Summing_add ?i_Summing_add ?l_Summing_add ?c_Summing_add ?k_Summing_add ?a_Summing_told ?i_Summing_told ?l_Summing_told ?c_Summing_told ?k_Summing_told ?a_multiply ?l_multiply ?c_multiply ?k_multiply ?a_Sealing_init ?i_Sealing_init ?l_Sealing_init ?c_Sealing_init ?k_Sealing_init ?a_Sealing_enciphered_count ?i_Sealing_enciphered_count ?l_Sealing_enciphered_count ?c_Sealing_enciphered_count ?k_Sealing_enciphered_count ?a_Sealing_hold ?i_Sealing_hold ?l_Sealing_hold ?c_Sealing_hold ?k_Sealing_hold ?a_Sealing_fill_block ?i_Sealing_fill_block ?l_Sealing_fill_block ?c_Sealing_fill_block ?k_Sealing_fill_block ?a_Sealing_take_beside ?i_Sealing_take_beside ?l_Sealing_take_beside ?c_Sealing_take_beside ?k_Sealing_take_beside ?a_Sealing_run_stream ?i_Sealing_run_stream ?l_Sealing_run_stream ?c_Sealing_run_stream ?k_Sealing_run_stream ?a_Sealing_take_text ?i_Sealing_take_text ?l_Sealing_take_text ?c_Sealing_take_text ?k_Sealing_take_text ?a_Sealing_tag ?i_Sealing_tag ?l_Sealing_tag ?c_Sealing_tag ?k_Sealing_tag ?a_Pieces_init ?i_Pieces_init ?l_Pieces_init ?c_Pieces_init ?k_Pieces_init ?a_Pieces_begin ?i_Pieces_begin ?l_Pieces_begin ?c_Pieces_begin ?k_Pieces_begin ?a_Pieces_go_with ?i_Pieces_go_with ?l_Pieces_go_with ?c_Pieces_go_with ?k_Pieces_go_with ?a_Pieces_more ?i_Pieces_more ?l_Pieces_more ?c_Pieces_more ?k_Pieces_more ?a_Pieces_end ?i_Pieces_end ?l_Pieces_end ?c_Pieces_end ?k_Pieces_end ?a_Pieces_begin_sum ?i_Pieces_begin_sum ?l_Pieces_begin_sum ?c_Pieces_begin_sum ?k_Pieces_begin_sum ?a_Pieces_go_on_sum ?i_Pieces_go_on_sum ?l_Pieces_go_on_sum ?c_Pieces_go_on_sum ?k_Pieces_go_on_sum ?a_Pieces_tell_sum ?i_Pieces_tell_sum ?l_Pieces_tell_sum ?c_Pieces_tell_sum ?k_Pieces_tell_sum ?a_Pieces_take ?i_Pieces_take ?l_Pieces_take ?c_Pieces_take ?k_Pieces_take ?a_lay_out ?l_lay_out ?c_lay_out ?k_lay_out ?a_pieces ?l_pieces ?c_pieces ?k_pieces ?a_KEY_LENGTHS ?l_KEY_LENGTHS ?v_KEY_LENGTHS ?a_SUBSTITUTE ?l_SUBSTITUTE ?v_SUBSTITUTE ?a_SHIFT ?l_SHIFT ?v_SHIFT ?a_KINDS ?l_KINDS ?v_KINDS ?a_START_1 ?l_START_1 ?v_START_1 ?a_START_2 ?l_START_2 ?v_START_2 ?a_CONSTANTS_1 ?l_CONSTANTS_1 ?v_CONSTANTS_1 ?a_CONSTANTS_2 ?l_CONSTANTS_2 ?v_CONSTANTS_2 ?a_BLOCK ?a_MASK ?a_TAG_LENGTH ?a_OVERFLOW ?z_range ?z_len ?z_list ?z_zip
    (case g_Summing => k_is); (case pg_Summing => k_is); (case hd_Summing => k_is); (case po_Summing => k_is); (case sa_Summing => k_is); (case mk_Summing => k_is); (case kc_Summing => k_is); (case n_kind_Summing => k_is); (case n_state_Summing => k_is); (case n_waiting_Summing => k_is); (case n_summed_length_Summing => k_is)
    (case g_Sealing => k_is); (case pg_Sealing => k_is); (case hd_Sealing => k_is); (case po_Sealing => k_is); (case sa_Sealing => k_is); (case mk_Sealing => k_is); (case kc_Sealing => k_is); (case n_round_keys_Sealing => k_is); (case n_factor_Sealing => k_is); (case n_nonce_Sealing => k_is); (case n_opening_Sealing => k_is); (case n_stream_Sealing => k_is); (case n_beside_length_Sealing => k_is); (case n_text_length_Sealing => k_is); (case n_text_begun_Sealing => k_is); (case n_tagged_Sealing => k_is); (case n_waiting_Sealing => k_is)
    (case g_Pieces => k_is); (case pg_Pieces => k_is); (case hd_Pieces => k_is); (case po_Pieces => k_is); (case sa_Pieces => k_is); (case mk_Pieces => k_is); (case kc_Pieces => k_is); (case n_sealing_Pieces => k_is); (case n_summing_Pieces => k_is)
    (case a_double => k_is); (case l_double => k_is); (case c_double => k_is); (case k_double => k_is)
    (case a_mix => k_is); (case l_mix => k_is); (case c_mix => k_is); (case k_mix => k_is)
    (case a_add_key => k_is); (case l_add_key => k_is); (case c_add_key => k_is); (case k_add_key => k_is)
    (case a_expand_key => k_is); (case l_expand_key => k_is); (case c_expand_key => k_is); (case k_expand_key => k_is)
    (case a_encipher => k_is); (case l_encipher => k_is); (case c_encipher => k_is); (case k_encipher => k_is)
    (case a_number_of => k_is); (case l_number_of => k_is); (case c_number_of => k_is); (case k_number_of => k_is)
    (case a_bytes_of => k_is); (case l_bytes_of => k_is); (case c_bytes_of => k_is); (case k_bytes_of => k_is)
    (case a_turn_left => k_is); (case l_turn_left => k_is); (case c_turn_left => k_is); (case k_turn_left => k_is)
    (case a_turn_thrice => k_is); (case l_turn_thrice => k_is); (case c_turn_thrice => k_is); (case k_turn_thrice => k_is)
    (case a_turn_and_shift => k_is); (case l_turn_and_shift => k_is); (case c_turn_and_shift => k_is); (case k_turn_and_shift => k_is)
    (case a_words_of => k_is); (case l_words_of => k_is); (case c_words_of => k_is); (case k_words_of => k_is)
    (case a_spread_block_1 => k_is); (case l_spread_block_1 => k_is); (case c_spread_block_1 => k_is); (case k_spread_block_1 => k_is)
    (case a_choose_1 => k_is); (case l_choose_1 => k_is); (case c_choose_1 => k_is); (case k_choose_1 => k_is)
    (case a_add_block_1 => k_is); (case l_add_block_1 => k_is); (case c_add_block_1 => k_is); (case k_add_block_1 => k_is)
    (case a_spread_block_2 => k_is); (case l_spread_block_2 => k_is); (case c_spread_block_2 => k_is); (case k_spread_block_2 => k_is)
    (case a_add_block_2 => k_is); (case l_add_block_2 => k_is); (case c_add_block_2 => k_is); (case k_add_block_2 => k_is)
    (case a_add_blocks => k_is); (case l_add_blocks => k_is); (case c_add_blocks => k_is); (case k_add_blocks => k_is)
    (case a_Summing_init => k_is); (case i_Summing_init => k_is); (case l_Summing_init => k_is); (case c_Summing_init => k_is); (case k_Summing_init => k_is)
    (case a_Summing_add => k_is); (case i_Summing_add => k_is); (case l_Summing_add => k_is); (case c_Summing_add => k_is); (case k_Summing_add => k_is)
    (case a_Summing_told => k_is); (case i_Summing_told => k_is); (case l_Summing_told => k_is); (case c_Summing_told => k_is); (case k_Summing_told => k_is)
    (case a_multiply => k_is); (case l_multiply => k_is); (case c_multiply => k_is); (case k_multiply => k_is)
    (case a_Sealing_init => k_is); (case i_Sealing_init => k_is); (case l_Sealing_init => k_is); (case c_Sealing_init => k_is); (case k_Sealing_init => k_is)
    (case a_Sealing_enciphered_count => k_is); (case i_Sealing_enciphered_count => k_is); (case l_Sealing_enciphered_count => k_is); (case c_Sealing_enciphered_count => k_is); (case k_Sealing_enciphered_count => k_is)
    (case a_Sealing_hold => k_is); (case i_Sealing_hold => k_is); (case l_Sealing_hold => k_is); (case c_Sealing_hold => k_is); (case k_Sealing_hold => k_is)
    (case a_Sealing_fill_block => k_is); (case i_Sealing_fill_block => k_is); (case l_Sealing_fill_block => k_is); (case c_Sealing_fill_block => k_is); (case k_Sealing_fill_block => k_is)
    (case a_Sealing_take_beside => k_is); (case i_Sealing_take_beside => k_is); (case l_Sealing_take_beside => k_is); (case c_Sealing_take_beside => k_is); (case k_Sealing_take_beside => k_is)
    (case a_Sealing_run_stream => k_is); (case i_Sealing_run_stream => k_is); (case l_Sealing_run_stream => k_is); (case c_Sealing_run_stream => k_is); (case k_Sealing_run_stream => k_is)
    (case a_Sealing_take_text => k_is); (case i_Sealing_take_text => k_is); (case l_Sealing_take_text => k_is); (case c_Sealing_take_text => k_is); (case k_Sealing_take_text => k_is)
    (case a_Sealing_tag => k_is); (case i_Sealing_tag => k_is); (case l_Sealing_tag => k_is); (case c_Sealing_tag => k_is); (case k_Sealing_tag => k_is)
    (case a_Pieces_init => k_is); (case i_Pieces_init => k_is); (case l_Pieces_init => k_is); (case c_Pieces_init => k_is); (case k_Pieces_init => k_is)
    (case a_Pieces_begin => k_is); (case i_Pieces_begin => k_is); (case l_Pieces_begin => k_is); (case c_Pieces_begin => k_is); (case k_Pieces_begin => k_is)
    (case a_Pieces_go_with => k_is); (case i_Pieces_go_with => k_is); (case l_Pieces_go_with => k_is); (case c_Pieces_go_with => k_is); (case k_Pieces_go_with => k_is)
    (case a_Pieces_more => k_is); (case i_Pieces_more => k_is); (case l_Pieces_more => k_is); (case c_Pieces_more => k_is); (case k_Pieces_more => k_is)
    (case a_Pieces_end => k_is); (case i_Pieces_end => k_is); (case l_Pieces_end => k_is); (case c_Pieces_end => k_is); (case k_Pieces_end => k_is)
    (case a_Pieces_begin_sum => k_is); (case i_Pieces_begin_sum => k_is); (case l_Pieces_begin_sum => k_is); (case c_Pieces_begin_sum => k_is); (case k_Pieces_begin_sum => k_is)
    (case a_Pieces_go_on_sum => k_is); (case i_Pieces_go_on_sum => k_is); (case l_Pieces_go_on_sum => k_is); (case c_Pieces_go_on_sum => k_is); (case k_Pieces_go_on_sum => k_is)
    (case a_Pieces_tell_sum => k_is); (case i_Pieces_tell_sum => k_is); (case l_Pieces_tell_sum => k_is); (case c_Pieces_tell_sum => k_is); (case k_Pieces_tell_sum => k_is)
    (case a_Pieces_take => k_is); (case i_Pieces_take => k_is); (case l_Pieces_take => k_is); (case c_Pieces_take => k_is); (case k_Pieces_take => k_is)
    (case a_lay_out => k_is); (case l_lay_out => k_is); (case c_lay_out => k_is); (case k_lay_out => k_is)
    (case a_pieces => k_is); (case l_pieces => k_is); (case c_pieces => k_is); (case k_pieces => k_is)
    (case a_KEY_LENGTHS => k_is); (case l_KEY_LENGTHS => k_is); (case v_KEY_LENGTHS => decide +kernel)
    (case a_SUBSTITUTE => k_is); (case l_SUBSTITUTE => k_is); (case v_SUBSTITUTE => decide +kernel)
    (case a_SHIFT => k_is); (case l_SHIFT => k_is); (case v_SHIFT => decide +kernel)
    (case a_KINDS => k_is); (case l_KINDS => k_is); (case v_KINDS => decide +kernel)
    (case a_START_1 => k_is); (case l_START_1 => k_is); (case v_START_1 => decide +kernel)
    (case a_START_2 => k_is); (case l_START_2 => k_is); (case v_START_2 => decide +kernel)
    (case a_CONSTANTS_1 => k_is); (case l_CONSTANTS_1 => k_is); (case v_CONSTANTS_1 => decide +kernel)
    (case a_CONSTANTS_2 => k_is); (case l_CONSTANTS_2 => k_is); (case v_CONSTANTS_2 => decide +kernel)
    (case a_BLOCK => k_is)
    (case a_MASK => k_is)
    (case a_TAG_LENGTH => k_is)
    (case a_OVERFLOW => k_is)
    (case z_range => k_is)
    (case z_len => k_is)
    (case z_list => k_is)
    (case z_zip => k_is)
  case S =>
    intro K H xs a hO hwi hask hx
    obtain ⟨calls, u⟩ := a
    cases hx with
    | cons h1 h2 =>
      cases h2
      cases h1 with
      | lst hs ha =>
        obtain ⟨as, rfl, hl, hc⟩ := My.dw_lists calls _ ha
        exact ⟨_, as, calls, rfl, hs, hl, hc, hask, fun p H' L => .lst (L.lst 0 rfl) (L2.dw_ints _)⟩
#print axioms PySem.Challenge.cw_sealedrowsdesk_s05_pieces_holds
