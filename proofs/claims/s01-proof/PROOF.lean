import PyProof.Rows.All
import Wide.All
import OpenK.AllK
import Wide.FinOn
import PyProof.EqAt
import PyProof.EqKinds
import PyProof.TupleCall
import KE.BitLaws
import Open.SpecLaws
import KE.OsHead
import KE.OsGo
import PySem.Challenge.RW_fireseasons_s01_answers
set_option Elab.async false
set_option linter.all false
set_option maxRecDepth 100000
/-! THE HAND LAYER, for ints, bools, texts, own classes, lists, tuples, dicts, comprehensions, walks over dicts, enumerate, zip, reversed, texts, calls, loops. Paste it whole ahead of your own text; what your proof does not reach may be deleted. -/
namespace L2
open PySem PySem.Spec PyProof.Rows

/-- a key: an int or a str -/
abbrev Key := Sum Int Str
def keyIs : Key → Value → Bool
  | .inl k, v => Value.isInt k v
  | .inr x, v => Value.isStrOf x v
def keyH (w : World) : Key → Int
  | .inl k => hashInt k
  | .inr x => hashStr w x
theorem keyIs_shape : ∀ {k : Key} {v : Value}, keyIs k v = true → (∃ i t, k = Sum.inl i ∧ v = Value.int i t) ∨ (∃ x t, k = Sum.inr x ∧ v = Value.str x t)
  | .inl i, v, h => by
    obtain ⟨t, e⟩ := Value.isInt_shape (k := i) (v := v) h
    exact .inl ⟨i, t, rfl, e⟩
  | .inr x, v, h => by
    obtain ⟨t, e⟩ := Value.isStrOf_shape (x := x) (v := v) h
    exact .inr ⟨x, t, rfl, e⟩
theorem key_ll (a b : Int) : decide ((Sum.inl a : Key) = Sum.inl b) = (a == b) := by
  by_cases e : a = b
  · subst e; simp
  · have h : ¬ (Sum.inl a : Key) = Sum.inl b := fun q => e (Sum.inl.inj q)
    rw [decide_eq_false h]
    exact (beq_eq_false_iff_ne.mpr e).symm
theorem key_rr (a b : Str) : decide ((Sum.inr a : Key) = Sum.inr b) = decide (a = b) := by
  by_cases e : a = b
  · subst e; simp
  · have h : ¬ (Sum.inr a : Key) = Sum.inr b := fun q => e (Sum.inr.inj q)
    rw [decide_eq_false h, decide_eq_false e]
theorem key_lr (a : Int) (b : Str) : decide ((Sum.inl a : Key) = Sum.inr b) = false := decide_eq_false (fun q => nomatch q)
theorem key_rl (a : Str) (b : Int) : decide ((Sum.inr a : Key) = Sum.inl b) = false := decide_eq_false (fun q => nomatch q)

def mixKind (prog : Program) (w : World) : PySem.KeyKind prog w Key where
  is := keyIs
  hash := keyH w
  inj := fun v a b ha hb => by
    rcases keyIs_shape ha with ⟨i, t, rfl, rfl⟩ | ⟨x, t, rfl, rfl⟩
    · rcases keyIs_shape hb with ⟨j, u, rfl, e⟩ | ⟨y, u, rfl, e⟩
      · injection e with e1 _; rw [e1]
      · exact nomatch e
    · rcases keyIs_shape hb with ⟨j, u, rfl, e⟩ | ⟨y, u, rfl, e⟩
      · exact nomatch e
      · injection e with e1 _; rw [e1]
  byValue := fun k v h => by
    rcases keyIs_shape h with ⟨i, t, rfl, rfl⟩ | ⟨x, t, rfl, rfl⟩ <;> rfl
  pyHash := fun hv h => by
    rcases keyIs_shape hv with ⟨i, t, rfl, rfl⟩ | ⟨x, t, rfl, rfl⟩
    · exact wpAny_pyHash_int h
    · exact wpAny_pyHash_str h
  eqBool := fun hu hv h => by
    rcases keyIs_shape hu with ⟨i, t, rfl, rfl⟩ | ⟨x, t, rfl, rfl⟩
    · rcases keyIs_shape hv with ⟨j, u, rfl, rfl⟩ | ⟨y, u, rfl, rfl⟩
      · rw [key_ll] at h; exact wpAny_eqBool_int h
      · rw [key_lr] at h; exact SeqAt.EqAt.int_str i t y u _ _ _ _ h
    · rcases keyIs_shape hv with ⟨j, u, rfl, rfl⟩ | ⟨y, u, rfl, rfl⟩
      · rw [key_rl] at h; exact SeqAt.EqAt.str_int x t j u _ _ _ _ h
      · rw [key_rr] at h; exact wpAny_eqBool_str h
  «strs» := fun k x t v h => by
    rcases keyIs_shape h with ⟨i, u, rfl, e⟩ | ⟨y, u, rfl, e⟩
    · exact nomatch e
    · injection e with e1 _
      subst e1
      cases v <;> rfl

end L2

namespace L2
open PySem PySem.Spec PyProof.Rows

/-- a value, without the heap -/
inductive V where
  | non | bl (b : Bool) | int (i : Int) | str (x : Str) | byt (b : Array UInt8) | flt (b : UInt64) | ref (a : Addr) | ty (n : String)
  deriving DecidableEq

def RelV : V → Value → Prop
  | .non, u => u = Value.none
  | .bl b, u => u = Value.bool b
  | .int i, u => ∃ t, u = Value.int i t
  | .str x, u => ∃ t, u = Value.str x t
  | .byt b, u => ∃ t, u = Value.bytes b t
  | .flt b, u => ∃ t, u = Value.float b t
  | .ref a, u => u = Value.ref a
  | .ty n, u => u = Value.type n

abbrev Vals : List V → List Value → Prop := Paired RelV
theorem Vals.length {xs : List V} {us : List Value} (r : Vals xs us) : xs.length = us.length := Paired.length r
theorem Vals.get : ∀ {xs : List V} {us : List Value} {i : Nat} {x : V}, Vals xs us → xs[i]? = some x → ∃ u, us[i]? = some u ∧ RelV x u
  | _, _, _, _, .nil, e => by simp at e
  | _, _, 0, _, .cons r _, e => by simp at e; subst e; exact ⟨_, rfl, r⟩
  | _, _, i + 1, x, .cons _ t, e => by
    obtain ⟨u, h1, h2⟩ := Vals.get (i := i) (x := x) t (by simpa using e)
    exact ⟨u, by simpa using h1, h2⟩
theorem Vals.set {x : V} {u : Value} (r : RelV x u) : ∀ {xs : List V} {us : List Value} (i : Nat), Vals xs us → Vals (xs.set i x) (us.set i u)
  | _, _, _, .nil => .nil
  | _, _, 0, .cons _ t => .cons r t
  | _, _, i + 1, .cons q t => .cons q (Vals.set r i t)
theorem Vals.append : ∀ {xs ys : List V} {us ws : List Value}, Vals xs us → Vals ys ws → Vals (xs ++ ys) (us ++ ws)
  | _, _, _, _, .nil, s => s
  | _, _, _, _, .cons r t, s => .cons r (Vals.append t s)
theorem Vals.take : ∀ {xs : List V} {us : List Value} (n : Nat), Vals xs us → Vals (xs.take n) (us.take n)
  | _, _, 0, _ => .nil
  | _, _, _ + 1, .nil => .nil
  | _, _, n + 1, .cons r t => .cons r (Vals.take n t)
theorem Vals.drop : ∀ {xs : List V} {us : List Value} (n : Nat), Vals xs us → Vals (xs.drop n) (us.drop n)
  | _, _, 0, r => r
  | _, _, _ + 1, .nil => .nil
  | _, _, n + 1, .cons _ t => Vals.drop n t
theorem Vals.none_of : ∀ {xs : List V} {us : List Value} {i : Nat}, Vals xs us → xs[i]? = none → us[i]? = none := fun {xs us i} r e => by
  have h1 := r.length
  have h2 : xs.length ≤ i := List.getElem?_eq_none_iff.mp e
  exact List.getElem?_eq_none_iff.mpr (by omega)

def RelO : Option V → Option Value → Prop
  | some v, some u => RelV v u
  | none, none => True
  | _, _ => False
def KV {κ : Type} : List (κ × V) → List (κ × Value) → Prop := Paired fun (p : κ × V) (q : κ × Value) => p.1 = q.1 ∧ RelV p.2 q.2

/-- a key of a dict (00_mix): an int or a text -/
def kV : Key → V
  | .inl i => .int i
  | .inr x => .str x

/-- what stands at a tracked address -/
inductive HO where
  /-- a list -/
  | lst (xs : List V)
  /-- a tuple (never changes) -/
  | tup (xs : List V)
  /-- a dict whose keys are ints and texts; one whose keys are tuples of ints and texts (the empty one is both) -/
  | dK (kvs : List (Key × V)) | dT (kvs : List (List Key × V))
  /-- a set of ints: its members, its size -/
  | set (S : Int → Bool) (n : Nat)
  /-- an instance of the class at C, its dict at dx, its attributes -/
  | ins (C dx : Addr) (fs : List (Str × V))
  /-- the dict of the instance at x -/
  | own (x : Addr)
  /-- the dict of an exception -/
  | xd (fs : List (Str × V))
  /-- a bound method, f of x -/
  | met (f x : Addr)
  /-- a range object lo, lo + 1, .. below hi -/
  | rng (lo hi : Int)
  /-- a thing that is known to the object (the script; a dict while a loop walks it): read, never written while it is so -/
  | frz (o : Obj) (u : HO)
  /-- a code object's table -/
  | tbl (ps : Array Value)
  /-- any other thing, by what is true of its one object (a def of one's own: SetO a S n := HO.ext fun h => ..) -/
  | ext (φ : Heap → Prop)

abbrev Hp := Addr → Option HO
def upd (H : Hp) (a : Addr) (o : HO) : Hp := fun b => if b = a then some o else H b
theorem upd_same {H : Hp} {a : Addr} {o : HO} : upd H a o a = some o := by unfold upd; rw [if_pos rfl]
theorem upd_ne {H : Hp} {a b : Addr} {o : HO} (h : b ≠ a) : upd H a o b = H b := by unfold upd; rw [if_neg h]
theorem upd_upd {H : Hp} {a : Addr} {o u : HO} : upd (upd H a o) a u = upd H a u := by
  funext b; unfold upd; split <;> rfl
/-- two objects of different content stand apart -/
theorem ne_of {H : Hp} {a b : Addr} {o u : HO} (h : H a = some o) (h' : H b = some u) (d : o ≠ u) : a ≠ b := by
  intro e; subst e; rw [h] at h'; exact d (Option.some.inj h')
theorem ne_of_none {H : Hp} {a b : Addr} {o : HO} (h : H a = some o) (h' : H b = none) : a ≠ b := by
  intro e; subst e; rw [h] at h'; cases h'

section
variable (P : Program) (w : World)
def ObjOk (H : Hp) (h : Heap) (a : Addr) : HO → Prop
  | .lst xs => xs.length ≤ sizeLine ∧ ∃ (its : List Value) (n : Nat), Vals xs its ∧ h.get? a = some { cls := .type "list", data := .seq its.toArray n }
  | .tup xs => xs.length ≤ sizeLine ∧ ∃ its : List Value, Vals xs its ∧ IsTup h a its.toArray
  | .dK kvs => kvs.length ≤ sizeLine ∧ (a == sysModules) = false ∧ ∃ vs, KV kvs vs ∧ h.DictOf (mixKind P w) a vs
  | .dT kvs => kvs.length ≤ sizeLine ∧ (a == sysModules) = false ∧ ∃ xs : List (List Key × Addr × Value),
      Paired (fun (p : List Key × V) (q : List Key × Addr × Value) => p.1 = q.1 ∧ H q.2.1 = some (.tup (p.1.map kV)) ∧ RelV p.2 q.2.2) kvs xs ∧
      ∃ o es ep, h.get? a = some o ∧ o.ExactDict ∧ o.data = .dict es ep ∧ es.toList = xs.map (entryOfKey (tupleKind (mixKind P w))) ∧ (xs.map (·.1)).Nodup
  | .set S n => h.SetOf (intKind P w) a S n
  | .ins C dx fs => H dx = some (.own a) ∧ fs.length ≤ 1000 ∧ dx ≠ a ∧ h.get? a = some (PySem.W.instObj C dx) ∧
      ∃ mA, h.Ns1 dx mA ∧ (∀ f, RelO (fs.lookup f) (mA f)) ∧ PySem.Within mA (fs.map (·.1))
  | .own _ => ∃ o, h.get? a = some o
  | .xd fs => ∃ mA, h.Ns1 a mA ∧ ∀ f, RelO (fs.lookup f) (mA f)
  | .rng lo hi => ∃ t u v, h.get? a = some { cls := .type "range", data := .fields #[.int lo t, .int hi u, .int 1 v] }
  | .frz o u => h.get? a = some o ∧ ObjOk H h a u
  | .tbl ps => h.get? a = some { cls := .none, data := .fields ps }
  | .met f x => h.get? a = some (PySem.W.methodObj (.ref f) (.ref x))
  | .ext φ => φ h ∧ (∃ o, h.get? a = some o) ∧ ∀ h1 h2 : Heap, φ h1 → (∀ o, h1.get? a = some o → h2.get? a = some o) → φ h2
/-- the abstract heap is held -/
def HOk (H : Hp) (h : Heap) : Prop := ∀ a o, H a = some o → ObjOk P w H h a o
end

section
variable {P : Program} {w : World} {H H' : Hp} {h h' : Heap} {a : Addr} {o : HO}
theorem ObjOk.lt (x : ObjOk P w H h a o) : a < h.objs.size := by
  cases o with
  | lst xs => obtain ⟨_, _, _, _, e⟩ := x; exact Heap.lt_size e
  | tup xs => obtain ⟨_, _, _, p⟩ := x; exact p.lt
  | dK kvs => obtain ⟨_, _, _, _, o, _, _, e, _⟩ := x; exact Heap.lt_size e
  | dT kvs => obtain ⟨_, _, _, _, o, _, _, e, _⟩ := x; exact Heap.lt_size e
  | set S n => obtain ⟨o, _, _, _, e, _⟩ := x; exact Heap.lt_size e
  | ins C dx fs => obtain ⟨_, _, _, e, _⟩ := x; exact Heap.lt_size e
  | own y => obtain ⟨_, e⟩ := x; exact Heap.lt_size e
  | xd fs => obtain ⟨_, ⟨_, _, _, e, _⟩, _⟩ := x; exact Heap.lt_size e
  | rng lo hi => obtain ⟨_, _, _, e⟩ := x; exact Heap.lt_size e
  | frz ob u => obtain ⟨e, _⟩ := x; exact Heap.lt_size e
  | tbl ps => exact Heap.lt_size (show h.get? a = some _ from x)
  | met f y => exact Heap.lt_size (show h.get? a = some _ from x)
  | ext φ => obtain ⟨_, ⟨_, e⟩, _⟩ := x; exact Heap.lt_size e
theorem Paired.mapP {α β : Type} {F G : α → β → Prop} : ∀ {l₁ : List α} {l₂ : List β}, Paired F l₁ l₂ → (∀ a b, F a b → G a b) → Paired G l₁ l₂
  | _, _, .nil, _ => .nil
  | _, _, .cons r t, f => .cons (f _ _ r) (Paired.mapP t f)
/-- what an object's description leans on: its own object, its own dict, the tuples -/
theorem ObjOk.stay (x : ObjOk P w H h a o) (k : ∀ b u, (b = a ∨ H b = some (.own a)) → h.get? b = some u → h'.get? b = some u)
    (ho : ∀ b, H b = some (.own a) → H' b = some (.own a)) (ht : ∀ b xs, H b = some (.tup xs) → H' b = some (.tup xs)) : ObjOk P w H' h' a o := by
  induction o with
  | lst xs => obtain ⟨z, its, n, r, e⟩ := x; exact ⟨z, its, n, r, k _ _ (.inl rfl) e⟩
  | tup xs => obtain ⟨z, its, r, ob, e, c⟩ := x; exact ⟨z, its, r, ob, k _ _ (.inl rfl) e, c⟩
  | dK kvs => obtain ⟨z, y, vs, r, ob, es, ep, e, c⟩ := x; exact ⟨z, y, vs, r, ob, es, ep, k _ _ (.inl rfl) e, c⟩
  | dT kvs =>
    obtain ⟨z, y, xs, r, ob, es, ep, e, c⟩ := x
    exact ⟨z, y, xs, Paired.mapP r fun p q z => ⟨z.1, ht _ _ z.2.1, z.2.2⟩, ob, es, ep, k _ _ (.inl rfl) e, c⟩
  | set S n => obtain ⟨ob, es, ep, t, e, c⟩ := x; exact ⟨ob, es, ep, t, k _ _ (.inl rfl) e, c⟩
  | ins C dx fs =>
    obtain ⟨d, z, ne, e, mA, ⟨od, es, ep, e2, c⟩, r⟩ := x
    exact ⟨ho _ d, z, ne, k _ _ (.inl rfl) e, mA, ⟨od, es, ep, k _ _ (.inr d) e2, c⟩, r⟩
  | own y => obtain ⟨ob, e⟩ := x; exact ⟨ob, k _ _ (.inl rfl) e⟩
  | xd fs => obtain ⟨mA, ⟨od, es, ep, e, c⟩, r⟩ := x; exact ⟨mA, ⟨od, es, ep, k _ _ (.inl rfl) e, c⟩, r⟩
  | rng lo hi => obtain ⟨t, u, v, e⟩ := x; exact ⟨t, u, v, k _ _ (.inl rfl) e⟩
  | frz ob u ih => obtain ⟨e, q⟩ := x; exact ⟨k _ _ (.inl rfl) e, ih q⟩
  | tbl ps =>
    have e : h.get? a = some { cls := .none, data := .fields ps } := x
    show h'.get? a = some { cls := .none, data := .fields ps }
    exact k a _ (.inl rfl) e
  | met f y =>
    have e : h.get? a = some (PySem.W.methodObj (.ref f) (.ref y)) := x
    show h'.get? a = some (PySem.W.methodObj (.ref f) (.ref y))
    exact k a _ (.inl rfl) e
  | ext φ => obtain ⟨p, ⟨o, e⟩, st⟩ := x; exact ⟨st _ _ p fun o q => k _ _ (.inl rfl) q, ⟨o, k _ _ (.inl rfl) e⟩, st⟩
theorem HOk.lt (x : HOk P w H h) (e : H a = some o) : a < h.objs.size := (x a o e).lt
theorem HOk.fresh (x : HOk P w H h) (e : h.objs.size ≤ a) : H a = none := by
  cases q : H a with
  | none => rfl
  | some u => exact absurd (Nat.lt_of_lt_of_le (x.lt q) e) (Nat.lt_irrefl _)
/-- every object of the heap is kept -/
theorem HOk.kept (x : HOk P w H h) (k : ∀ b u, h.get? b = some u → h'.get? b = some u) : HOk P w H h' := fun a o e =>
  (x a o e).stay (fun b u _ q => k b u q) (fun _ q => q) fun _ _ q => q
/-- a new object is laid and tracked -/
theorem HOk.laid (x : HOk P w H h) (k : ∀ b u, h.get? b = some u → h'.get? b = some u) (hp : h.objs.size ≤ a) (new : ObjOk P w (upd H a o) h' a o) : HOk P w (upd H a o) h' := fun b u e => by
  have hn := x.fresh hp
  by_cases hb : b = a
  · subst hb; rw [upd_same] at e; cases e; exact new
  · rw [upd_ne hb] at e
    exact (x b u e).stay (fun c v _ q => k c v q) (fun c q => by rw [upd_ne (ne_of_none q hn)]; exact q) fun c xs q => by rw [upd_ne (ne_of_none q hn)]; exact q
end

/-- what may be read as u: it is u, or a known u -/
def Rd (H : Hp) (a : Addr) (u : HO) : Prop := H a = some u ∨ ∃ o, H a = some (.frz o u)
theorem Rd.ok {P : Program} {w : World} {H : Hp} {h : Heap} {a : Addr} {u : HO} (r : Rd H a u) (x : HOk P w H h) : ObjOk P w H h a u := by
  rcases r with r | ⟨o, r⟩
  · exact x a u r
  · obtain ⟨_, q⟩ := x a _ r
    exact q
/-- what may be written -/
def Mut : Option HO → Prop
  | some (.lst _) => True
  | some (.dK _) => True
  | some (.dT _) => True
  | some (.set _ _) => True
  | some (.ins _ _ _) => True
  | some (.ext _) => True
  | _ => False
section
variable {P : Program} {w : World} {H : Hp} {h h' : Heap} {x e : Addr} {o' : HO}
/-- the object at e is changed: x itself, or the dict of the instance x -/
theorem HOk.write (ok : HOk P w H h) (mu : Mut (H x)) (he : e = x ∨ H e = some (.own x)) (k : ∀ b u, b ≠ e → h.get? b = some u → h'.get? b = some u) (heo : ∃ u, h'.get? e = some u)
    (new : ObjOk P w (upd H x o') h' x o') : HOk P w (upd H x o') h' := fun b u q => by
  have nown : ∀ c y, H c = some (.own y) → c ≠ x := fun c y r z => by subst z; rw [r] at mu; exact mu
  have ntup : ∀ c xs, H c = some (.tup xs) → c ≠ x := fun c xs r z => by subst z; rw [r] at mu; exact mu
  by_cases hb : b = x
  · subst hb; rw [upd_same] at q; cases q; exact new
  · rw [upd_ne hb] at q
    by_cases hbe : b = e
    · have q' : H b = some (.own x) := by
        rcases he with z | z
        · exact absurd (hbe.trans z) hb
        · rw [hbe]; exact z
      rw [q] at q'; cases q'
      obtain ⟨v, hv⟩ := heo
      exact ⟨v, by rw [hbe]; exact hv⟩
    · refine (ok b u q).stay (fun c v hc r => k c v ?_ r) (fun c r => by rw [upd_ne (nown c b r)]; exact r) fun c xs r => by rw [upd_ne (ntup c xs r)]; exact r
      rcases hc with rfl | hc
      · exact hbe
      · rintro rfl
        rcases he with z | z
        · exact nown c b hc z
        · rw [hc] at z; cases z; exact hb rfl
end

/-! ### kept unless tracked; of the frames at fs (the callers') the slots may change (an exception that passes writes there); of the records at ex (iterators) nothing is said -/
structure Un (fs ex : List Addr) (H H' : Hp) (h h' : Heap) : Prop where
  keep : ∀ b o, h.get? b = some o → H b = none → b ∉ fs → b ∉ ex → h'.get? b = some o
  slot : ∀ b o, h.get? b = some o → H b = none → b ∈ fs → b ∉ ex → ∃ sl, h'.get? b = some { o with slots := sl }
  free : ∀ b o, h.get? b = some o → H b = none → b ∉ ex → H' b = none
  there : ∀ b o, h.get? b = some o → b ∉ ex → ∃ o', h'.get? b = some o'
  tups : ∀ b xs, H b = some (.tup xs) → H' b = some (.tup xs)
  frzs : ∀ b o u, H b = some (.frz o u) → H' b = some (.frz o u)
  tbls : ∀ b ps, H b = some (.tbl ps) → ∃ more, H' b = some (.tbl (ps ++ more))
section
variable {fs fs' ex ex' : List Addr} {H H1 H2 : Hp} {h h1 h2 h' : Heap} {a x e : Addr} {o : HO}
theorem Un.any (u : Un fs ex H H1 h h1) {b : Addr} {ob : Obj} (q : h.get? b = some ob) (n : H b = none) (hx : b ∉ ex) : ∃ sl, h1.get? b = some { ob with slots := sl } := by
  by_cases hb : b ∈ fs
  · exact u.slot b ob q n hb hx
  · exact ⟨ob.slots, u.keep b ob q n hb hx⟩
theorem Un.kept (k : ∀ b u, h.get? b = some u → h'.get? b = some u) : Un fs ex H H h h' :=
  ⟨fun b ob q _ _ _ => k b ob q, fun b ob q _ _ _ => ⟨ob.slots, k b ob q⟩, fun _ _ _ n _ => n, fun b ob q _ => ⟨ob, k b ob q⟩, fun _ _ q => q, fun _ _ _ q => q, fun _ ps q => ⟨#[], by rw [q]; simp⟩⟩
theorem Un.refl : Un fs ex H H h h := Un.kept fun _ _ q => q
theorem Un.laid (k : ∀ b u, h.get? b = some u → h'.get? b = some u) (hp : h.objs.size ≤ a) (hn : H a = none) : Un fs ex H (upd H a o) h h' where
  keep := fun b u q _ _ _ => k b u q
  slot := fun b u q _ _ _ => ⟨u.slots, k b u q⟩
  free := fun b u q n _ => by rw [upd_ne (Nat.ne_of_lt (Nat.lt_of_lt_of_le (Heap.lt_size q) hp))]; exact n
  there := fun b u q _ => ⟨u, k b u q⟩
  tups := fun b xs q => by rw [upd_ne (ne_of_none q hn)]; exact q
  frzs := fun b u xs q => by rw [upd_ne (ne_of_none q hn)]; exact q
  tbls := fun b ps q => ⟨#[], by rw [upd_ne (ne_of_none q hn), q]; simp⟩
theorem Un.write (mu : Mut (H x)) (he : e = x ∨ H e = some (.own x)) (k : ∀ b u, b ≠ e → h.get? b = some u → h'.get? b = some u) (heo : ∃ u, h'.get? e = some u) : Un fs ex H (upd H x o) h h' := by
  have hx : ∀ b, H b = none → b ≠ x := fun b n z => by subst z; rw [n] at mu; exact mu
  have hb : ∀ b, H b = none → b ≠ e := fun b n z => by
    subst z
    rcases he with r | r
    · exact hx b n r
    · rw [n] at r; cases r
  have hm : ∀ b u, H b = some u → ¬ Mut (some u) → b ≠ x := fun b u q nm z => by subst z; rw [q] at mu; exact nm mu
  refine ⟨fun b u q n _ _ => k b u (hb b n) q, fun b u q n _ _ => ⟨u.slots, k b u (hb b n) q⟩, fun b u q n _ => by rw [upd_ne (hx b n)]; exact n, fun b u q _ => ?_,
    fun b xs q => by rw [upd_ne (hm b _ q fun z => z)]; exact q, fun b u xs q => by rw [upd_ne (hm b _ q fun z => z)]; exact q, fun b ps q => ⟨#[], by rw [upd_ne (hm b _ q fun z => z), q]; simp⟩⟩
  by_cases hbe : b = e
  · subst hbe; exact heo
  · exact ⟨u, k b u hbe q⟩
end

/-! ### the heap without what is tracked -/
def trk (h : Heap) (H : Hp) : List Addr := (List.range h.objs.size).filter fun a => (H a).isSome
def hidT (h : Heap) (H : Hp) : Heap := PySem.W.hideAll h (trk h H)
theorem hidT_size (h : Heap) (H : Hp) : (hidT h H).objs.size = h.objs.size := PySem.W.hideAll_size _ _
theorem hidT_get {h : Heap} {H : Hp} {b : Addr} {o : Obj} (e : h.get? b = some o) (n : H b = none) : (hidT h H).get? b = some o :=
  PySem.W.hideAll_get _ e fun hm => by
    have q : (H b).isSome = true := (List.mem_filter.mp hm).2
    rw [n] at q; simp at q
theorem of_hidT {h : Heap} {H : Hp} {b : Addr} {o : Obj} (e : (hidT h H).get? b = some o) : h.get? b = some o ∧ H b = none := by
  have e' : h.get? b = some o := PySem.W.of_hideAll (trk h H) e
  refine ⟨e', ?_⟩
  cases q : H b with
  | none => rfl
  | some x =>
    have hm : b ∈ trk h H := List.mem_filter.mpr ⟨List.mem_range.mpr (Heap.lt_size e'), by simp [q]⟩
    have z : (hidT h H).get? b = none := PySem.W.hideAll_none (trk h H) hm
    rw [z] at e; cases e

/-! ### OpenK's ledger, filled with every new object but one -/
end L2

namespace L2
open PySem PySem.Spec PyProof.Rows

/-- the module's facts, over the base: the heap at the law's entry without what is tracked there -/
structure Mod (K : PySem.W.Frag) (mg : Str → Option Value) (base : Heap) : Prop where
  kin : K.In base
  glob : base.Ns mainGlobals mg
  blt : ∃ mb, base.Ns builtinsNs mb ∧ ∀ x : Str, x ≠ "__name__" → mb x = bootBuiltins x
  nolimit : base.NoLimit

/-- the context: a def's body (or a comprehension's block) running. base: fixed through the whole law; s₀, H₀: the entry; outer: the frames whose slots others may change (a def's callers); stack: all frames that run;
   ex: iterators that were made ahead of the entry and are walked here (a comprehension's); fn: the names whose cells were made at the entry (a def: all; a comprehension's block: its own); calm: not within an except suite; pn: pins that every state bears; xe: what is wanted of an exception that leaves the code -/
structure Cx where
  prog : Program
  w : World
  K : PySem.W.Frag
  mg : Str → Option Value
  base : Heap
  A : Around
  N : List Str
  s_0 : Shared
  H_0 : Hp
  env : Env
  outer : List Env
  stack : List Env
  ex : List Addr
  fn : Str → Bool
  calm : Bool
  pn : List (Addr × Obj)
  xe : Value → Shared → Prop
/-- the callers' frames -/
def frs (l : List Env) : List Addr := l.filterMap (·.frame)
abbrev Cx.fs (X : Cx) : List Addr := frs X.outer

def Vis (sc : Scope) (x : Str) : Prop := sc.names.lookup x = some .local ∨ sc.names.lookup x = some .cell ∨ sc.names.lookup x = some .free
def Loc (sc : Scope) (x : Str) : Prop := sc.names.lookup x = some .local ∨ sc.names.lookup x = some .cell
def Look (env : Env) (h : Heap) (m : Str → Option Value) (x : Str) (u : Value) : Prop :=
  (env.kindOf x = some .local ∧ m x = some u) ∨ ((env.kindOf x = some .cell ∨ env.kindOf x = some .free) ∧ ∃ c, env.cells.lookup x = some c ∧ h.IsCell c (some u))

structure Cx.Ok (X : Cx) : Prop where
  mod : Mod X.K X.mg X.base
  kind : X.env.scope.kind = .function
  glob : X.env.globals = mainGlobals
  blt : X.env.builtins = builtinsNs
  above : X.s_0.heap.objs.size ≤ X.env.locals
  inj : ∀ x y c, X.env.cells.lookup x = some c → X.env.cells.lookup y = some c → x = y
  has : ∀ x, (X.env.kindOf x = some .cell ∨ X.env.kindOf x = some .free) → ∃ c, X.env.cells.lookup x = some c
  cab : ∀ x c, X.fn x = true → X.env.cells.lookup x = some c → X.s_0.heap.objs.size ≤ c
  hd : X.calm = true → X.A.handled = none
  frames : X.A.frames = some X.stack
  stk : X.stack = X.outer ∨ (X.stack = X.env :: X.outer ∧ X.env.frame = some X.env.locals)
  exf : ∀ b ∈ X.ex, b ≠ X.env.locals ∧ ∀ x c, X.env.cells.lookup x = some c → c ≠ b
  bs : ∀ b o, X.base.get? b = some o → X.s_0.heap.get? b = some o ∧ X.H_0 b = none
  bsz : X.base.objs.size ≤ X.s_0.heap.objs.size
  noex : ∀ b o, X.base.get? b = some o → b ∉ X.ex
  exfs : ∀ b ∈ X.ex, b ∉ X.fs
  funs : X.s_0.heap.FunFrames X.base X.outer
  frf : ∀ b ∈ X.fs, X.H_0 b = none

structure Inv (X : Cx) (pins : List (Addr × Obj)) (σ : List (Option V)) (H : Hp) (s : Shared) : Prop where
  ok : X.Ok
  os : s.os = X.s_0.os
  bare : AllBare s.gens
  base : Un X.fs X.ex X.H_0 H X.s_0.heap s.heap
  loc : ∃ m, s.heap.Ns X.env.locals m ∧ ∀ (i : Nat) (x : Str) (v : V), X.N[i]? = some x → σ[i]? = some (some v) → Vis X.env.scope x → ∃ u, RelV v u ∧ Look X.env s.heap m x u
  cell : ∀ x c, X.env.cells.lookup x = some c → ∃ v, s.heap.IsCell c v
  free : H X.env.locals = none
  freeC : ∀ x c, X.env.cells.lookup x = some c → H c = none
  pin : ∀ p ∈ X.pn ++ pins, s.heap.get? p.1 = some p.2 ∧ H p.1 = none ∧ p.1 ≠ X.env.locals ∧ p.1 ∉ X.fs ∧ ∀ v, p.2.data ≠ .cell v
  hok : HOk X.prog X.w H s.heap
  len : σ.length = X.N.length

section
variable {X : Cx} {pins : List (Addr × Obj)} {σ : List (Option V)} {H H' : Hp} {s : Shared} {h' : Heap}

theorem Cx.Ok.nofr (ok : X.Ok) {b : Addr} {o : Obj} (e : X.base.get? b = some o) : b ∉ X.fs := fun hb => by
  have := (ok.funs.mem hb).1
  rw [e] at this; cases this
theorem Inv.bs (I : Inv X pins σ H s) : ∀ b o, X.base.get? b = some o → s.heap.get? b = some o ∧ H b = none := fun b o e =>
  ⟨I.base.keep b o (I.ok.bs b o e).1 (I.ok.bs b o e).2 (I.ok.nofr e) (I.ok.noex b o e), I.base.free b o (I.ok.bs b o e).1 (I.ok.bs b o e).2 (I.ok.noex b o e)⟩
theorem Inv.bk (I : Inv X pins σ H s) : ∀ b o, X.base.get? b = some o → s.heap.get? b = some o := fun b o e => (I.bs b o e).1
theorem Inv.mod (I : Inv X pins σ H s) : Mod X.K X.mg X.base := I.ok.mod
theorem Inv.kIn (I : Inv X pins σ H s) : X.K.In s.heap := I.ok.mod.kin.keeps I.bk
theorem Inv.lt (I : Inv X pins σ H s) : X.env.locals < s.heap.objs.size := let ⟨_, hn, _⟩ := I.loc; hn.lt
theorem Inv.sz (I : Inv X pins σ H s) : X.s_0.heap.objs.size ≤ s.heap.objs.size := Nat.le_trans I.ok.above (Nat.le_of_lt I.lt)
theorem Inv.nofs (I : Inv X pins σ H s) {a : Addr} (h : s.heap.objs.size ≤ a) : a ∉ X.fs := fun hb => by
  obtain ⟨_, o, ho, _⟩ := I.ok.funs.mem hb
  exact absurd (Nat.lt_of_lt_of_le (Heap.lt_size ho) (Nat.le_trans I.sz h)) (Nat.lt_irrefl _)
theorem Inv.cne (I : Inv X pins σ H s) : ∀ x c, X.env.cells.lookup x = some c → c ≠ X.env.locals := fun x c e z => by
  obtain ⟨v, o, ho, hd⟩ := I.cell x c e
  obtain ⟨m, ⟨o', es, ep, ho', hd', _⟩, _⟩ := I.loc
  rw [z, ho'] at ho; cases ho; rw [hd'] at hd; cases hd
theorem Inv.funs (I : Inv X pins σ H s) : s.heap.FunFrames X.base X.outer := by
  have all : ∀ (l : List Env), (∀ b ∈ frs l, b ∈ X.fs) → X.s_0.heap.FunFrames X.base l → s.heap.FunFrames X.base l := by
    intro l
    induction l with
    | nil => intro _ _; trivial
    | cons env r ih =>
      intro hs hl
      obtain ⟨hk, ⟨L, o, hf, hn, ho, hd⟩, hr⟩ := hl
      have hL : L ∈ X.fs := hs L (by unfold frs; rw [List.filterMap_cons, hf]; exact List.mem_cons_self)
      obtain ⟨sl, e⟩ := I.base.slot L o ho (I.ok.frf L hL) hL fun z => I.ok.exfs L z hL
      exact ⟨hk, ⟨L, _, hf, hn, e, hd⟩, ih (fun b hb => hs b (by unfold frs; rw [List.filterMap_cons, hf]; exact List.mem_cons_of_mem _ hb)) hr⟩
  exact all X.outer (fun _ hb => hb) I.ok.funs

/-- the frames that run, for a call -/
theorem Inv.stack (I : Inv X pins σ H s) : s.heap.FunFrames X.base X.stack := by
  rcases I.ok.stk with e | ⟨e, hf⟩
  · rw [e]; exact I.funs
  · rw [e]
    obtain ⟨m, hn, _⟩ := I.loc
    refine .cons (by rw [I.ok.kind]; decide) hf hn ?_ I.funs
    exact Heap.get?_none_of_le (Nat.le_trans I.ok.bsz I.ok.above)
theorem Inv.stkSub (I : Inv X pins σ H s) : ∀ b ∈ frs X.stack, b ∈ X.env.locals :: X.fs := fun b hb => by
  rcases I.ok.stk with e | ⟨e, hf⟩
  · rw [e] at hb; exact List.mem_cons_of_mem _ hb
  · rw [e] at hb
    unfold frs at hb
    rw [List.filterMap_cons, hf] at hb
    exact hb
theorem Inv.stkFree (I : Inv X pins σ H s) : ∀ b ∈ frs X.stack, H b = none := fun b hb => by
  rcases List.mem_cons.mp (I.stkSub b hb) with e | hb
  · rw [e]; exact I.free
  · obtain ⟨_, o, ho, _⟩ := I.ok.funs.mem hb
    exact I.base.free b o ho (I.ok.frf b hb) fun z => I.ok.exfs b z hb

/-- THE STEP: the untracked objects but the frame and the records at ch are kept (the callers' frames up to slots), the frame's map is kept, the new abstract heap is held -/
theorem Inv.step {g' : Array GenState} {t' : Nat} {d' : Drawn} {ch : List Addr} (I : Inv X pins σ H s)
    (hch : ∀ b ∈ ch, (b ∈ X.ex ∨ X.s_0.heap.objs.size ≤ b) ∧ b ≠ X.env.locals ∧ (∀ x c, X.env.cells.lookup x = some c → c ≠ b) ∧ ∀ p ∈ X.pn ++ pins, p.1 ≠ b)
    (keep : ∀ b o, b ≠ X.env.locals → b ∉ X.fs → b ∉ ch → s.heap.get? b = some o → H b = none → h'.get? b = some o)
    (slot : ∀ b o, b ≠ X.env.locals → b ∈ X.fs → b ∉ ch → s.heap.get? b = some o → H b = none → ∃ sl, h'.get? b = some { o with slots := sl }) (free : ∀ b o, b ∉ ch → s.heap.get? b = some o → H b = none → H' b = none)
    (there : ∀ b o, b ∉ ch → s.heap.get? b = some o → ∃ o', h'.get? b = some o')
    (tups : ∀ b xs, H b = some (.tup xs) → H' b = some (.tup xs)) (frzs : ∀ b o u, H b = some (.frz o u) → H' b = some (.frz o u)) (tbls : ∀ b ps, H b = some (.tbl ps) → ∃ more, H' b = some (.tbl (ps ++ more)))
    (ns : ∀ m, s.heap.Ns X.env.locals m → h'.Ns X.env.locals m) (hok : HOk X.prog X.w H' h') (hg : AllBare g') :
    Inv X pins σ H' { s with heap := h', gens := g', drawn := d', toks := t' } := by
  have neL : ∀ b o, X.s_0.heap.get? b = some o → b ≠ X.env.locals := fun b o e => Nat.ne_of_lt (Nat.lt_of_lt_of_le (Heap.lt_size e) I.ok.above)
  have neC : ∀ b o, X.s_0.heap.get? b = some o → b ∉ X.ex → b ∉ ch := fun b o e hx hb => by
    rcases (hch b hb).1 with z | z
    · exact hx z
    · exact absurd (Nat.lt_of_lt_of_le (Heap.lt_size e) z) (Nat.lt_irrefl _)
  have cellK : ∀ x c, X.env.cells.lookup x = some c → ∀ v, s.heap.IsCell c v → h'.IsCell c v := fun x c e v ⟨o, ho, hd⟩ => by
    have nch : c ∉ ch := fun z => (hch c z).2.2.1 x c e rfl
    by_cases hc : c ∈ X.fs
    · obtain ⟨sl, q⟩ := slot c o (I.cne x c e) hc nch ho (I.freeC x c e)
      exact ⟨_, q, hd⟩
    · exact ⟨o, keep c o (I.cne x c e) hc nch ho (I.freeC x c e), hd⟩
  refine ⟨I.ok, I.os, hg, ⟨fun b o e n hb hx => ?_, fun b o e n hb hx => ?_, fun b o e n hx => ?_, fun b o e hx => ?_, fun b xs e => tups b xs (I.base.tups b xs e), fun b o xs e => frzs b o xs (I.base.frzs b o xs e), fun b ps e => ?_⟩, ?_, fun x c e => ?_, ?_, fun x c e => ?_, fun p hp => ?_, hok, I.len⟩
  · exact keep b o (neL b o e) hb (neC b o e hx) (I.base.keep b o e n hb hx) (I.base.free b o e n hx)
  · obtain ⟨sl, e1⟩ := I.base.slot b o e n hb hx
    obtain ⟨sl', e2⟩ := slot b _ (neL b o e) hb (neC b o e hx) e1 (I.base.free b o e n hx)
    exact ⟨sl', e2⟩
  · obtain ⟨o', e1⟩ := I.base.there b o e hx
    exact free b o' (neC b o e hx) e1 (I.base.free b o e n hx)
  · obtain ⟨o', e1⟩ := I.base.there b o e hx
    exact there b o' (neC b o e hx) e1
  · obtain ⟨m1, e1⟩ := I.base.tbls b ps e
    obtain ⟨m2, e2⟩ := tbls b _ e1
    exact ⟨m1 ++ m2, by rw [e2, Array.append_assoc]⟩
  · obtain ⟨m, hn, hl⟩ := I.loc
    refine ⟨m, ns m hn, fun i x v e1 e2 e3 => ?_⟩
    obtain ⟨u, r, l⟩ := hl i x v e1 e2 e3
    refine ⟨u, r, ?_⟩
    rcases l with l | ⟨k, c, e, z⟩
    · exact .inl l
    · exact .inr ⟨k, c, e, cellK x c e _ z⟩
  · obtain ⟨v, z⟩ := I.cell x c e
    exact ⟨v, cellK x c e v z⟩
  · obtain ⟨m, ⟨o, _, _, ho, _⟩, _⟩ := I.loc
    exact free _ o (fun z => (hch _ z).2.1 rfl) ho I.free
  · obtain ⟨v, o, ho, hd⟩ := I.cell x c e
    exact free c o (fun z => (hch c z).2.2.1 x c e rfl) ho (I.freeC x c e)
  · obtain ⟨e, n, ne, nf, d⟩ := I.pin p hp
    have nch : p.1 ∉ ch := fun z => (hch p.1 z).2.2.2 p hp rfl
    exact ⟨keep p.1 p.2 ne nf nch e n, free p.1 p.2 nch e n, ne, nf, d⟩
/-- .. where the frame's own object is kept too -/
theorem Inv.un {t' : Nat} (I : Inv X pins σ H s) (u : Un X.fs [] H H' s.heap h') (hok : HOk X.prog X.w H' h') : Inv X pins σ H' { s with heap := h', toks := t' } := by
  obtain ⟨m, ⟨o, es, ep, ho, r⟩, _⟩ := id I.loc
  obtain ⟨sl, hL⟩ := u.any ho I.free (by simp)
  exact I.step (g' := s.gens) (d' := s.drawn) (ch := []) (fun _ z => nomatch z) (fun b o _ hb _ e n => u.keep b o e n hb (by simp)) (fun b o _ hb _ e n => u.slot b o e n hb (by simp)) (fun b o _ e n => u.free b o e n (by simp)) (fun b o _ e => u.there b o e (by simp)) u.tups u.frzs u.tbls (fun m' hm => by
    obtain ⟨o', es', ep', ho', r'⟩ := hm
    rw [ho] at ho'; cases ho'
    exact ⟨_, es', ep', hL, r'⟩) hok I.bare
/-- behind a call (or a comprehension's block): the slots of this frame may have changed too, the records at ch may have turned -/
theorem Inv.call {g' : Array GenState} {t' : Nat} {d' : Drawn} {ch : List Addr} (I : Inv X pins σ H s) (u : Un (frs X.stack) ch H H' s.heap h') (hok : HOk X.prog X.w H' h') (hg : AllBare g')
    (hch : ∀ b ∈ ch, (b ∈ X.ex ∨ X.s_0.heap.objs.size ≤ b) ∧ b ≠ X.env.locals ∧ (∀ x c, X.env.cells.lookup x = some c → c ≠ b) ∧ ∀ p ∈ X.pn ++ pins, p.1 ≠ b) :
    Inv X pins σ H' { s with heap := h', gens := g', drawn := d', toks := t' } := by
  obtain ⟨m, ⟨o, es, ep, ho, r⟩, _⟩ := id I.loc
  obtain ⟨sl, hL⟩ := u.any ho I.free fun z => (hch _ z).2.1 rfl
  exact I.step (ch := ch) hch (fun b o hL hb hc e n => u.keep b o e n (fun z => (List.mem_cons.mp (I.stkSub b z)).elim hL hb) hc) (fun b o _ _ hc e n => u.any e n hc) (fun b o hc e n => u.free b o e n hc) (fun b o hc e => u.there b o e hc) u.tups u.frzs u.tbls (fun m' hm => by
    obtain ⟨o', es', ep', ho', r'⟩ := hm
    rw [ho] at ho'; cases ho'
    exact ⟨_, es', ep', hL, r'⟩) hok hg
/-- an untracked record of ours (an iterator) has turned -/
theorem Inv.turned {t' : Nat} {it : Addr} (I : Inv X pins σ H s) (k : ∀ b o, b ≠ it → s.heap.get? b = some o → h'.get? b = some o) (hn : H it = none) (hL : it ≠ X.env.locals)
    (h1 : it ∈ X.ex ∨ X.s_0.heap.objs.size ≤ it) (h2 : ∀ x c, X.env.cells.lookup x = some c → c ≠ it) (h3 : ∀ p ∈ X.pn ++ pins, p.1 ≠ it) : Inv X pins σ H { s with heap := h', toks := t' } := by
  have nit : ∀ b u, H b = some u → b ≠ it := fun b u e z => by rw [z, hn] at e; cases e
  refine I.step (g' := s.gens) (d' := s.drawn) (ch := [it]) (fun b hb => ?_) (fun b o _ _ hc e _ => k b o (fun z => hc (by simp [z])) e) (fun b o _ _ hc e _ => ⟨o.slots, k b o (fun z => hc (by simp [z])) e⟩) (fun _ _ _ _ n => n)
    (fun b o hc e => ⟨o, k b o (fun z => hc (by simp [z])) e⟩) (fun _ _ e => e) (fun _ _ _ e => e) (fun b ps e => ⟨#[], by rw [e]; simp⟩) (fun m hm => ?_) (fun b u e => ?_) I.bare
  · have e : b = it := by simpa using hb
    subst e
    exact ⟨h1, hL, h2, h3⟩
  · obtain ⟨o, es, ep, ho, r⟩ := hm
    exact ⟨o, es, ep, k _ o (Ne.symm hL) ho, r⟩
  · refine (I.hok b u e).stay (fun c v hc q => k c v ?_ q) (fun _ q => q) fun _ _ q => q
    rcases hc with z | z
    · rw [z]; exact nit b u e
    · exact nit c _ z
theorem Inv.tok (I : Inv X pins σ H s) (t : Nat) : Inv X pins σ H { s with toks := t } := I.un (h' := s.heap) (t' := t) Un.refl I.hok
/-- all objects kept -/
theorem Inv.kept {t' : Nat} (I : Inv X pins σ H s) (k : ∀ b u, s.heap.get? b = some u → h'.get? b = some u) : Inv X pins σ H { s with heap := h', toks := t' } := I.un (Un.kept k) (I.hok.kept k)
/-- a new object laid and tracked -/
theorem Inv.laid {a : Addr} {o : HO} {t' : Nat} (I : Inv X pins σ H s) (k : ∀ b u, s.heap.get? b = some u → h'.get? b = some u) (hp : s.heap.objs.size ≤ a) (new : ObjOk X.prog X.w (upd H a o) h' a o) :
    Inv X pins σ (upd H a o) { s with heap := h', toks := t' } := I.un (Un.laid k hp (I.hok.fresh hp)) (I.hok.laid k hp new)
/-- an object written -/
theorem Inv.write {x e : Addr} {o : HO} {t' : Nat} (I : Inv X pins σ H s) (mu : Mut (H x)) (he : e = x ∨ H e = some (.own x)) (k : ∀ b u, b ≠ e → s.heap.get? b = some u → h'.get? b = some u) (heo : ∃ u, h'.get? e = some u)
    (new : ObjOk X.prog X.w (upd H x o) h' x o) : Inv X pins σ (upd H x o) { s with heap := h', toks := t' } := I.un (Un.write mu he k heo) (I.hok.write mu he k heo new)
/-- forgetting slots, pins -/
theorem Inv.weak {σ' : List (Option V)} (I : Inv X pins σ H s) (hl : σ'.length = σ.length) (w : ∀ (i : Nat) v, σ'[i]? = some (some v) → σ[i]? = some (some v)) : Inv X pins σ' H s :=
  ⟨I.ok, I.os, I.bare, I.base, let ⟨m, hn, hl'⟩ := I.loc; ⟨m, hn, fun i x v e1 e2 e3 => hl' i x v e1 (w i v e2) e3⟩, I.cell, I.free, I.freeC, I.pin, I.hok, hl.trans I.len⟩
theorem Inv.pins_of {pins' : List (Addr × Obj)} (I : Inv X pins σ H s) (h : ∀ p ∈ pins', s.heap.get? p.1 = some p.2 ∧ H p.1 = none ∧ p.1 ≠ X.env.locals ∧ p.1 ∉ X.fs ∧ ∀ v, p.2.data ≠ .cell v) : Inv X pins' σ H s :=
  ⟨I.ok, I.os, I.bare, I.base, I.loc, I.cell, I.free, I.freeC, fun p hp => (List.mem_append.mp hp).elim (fun z => I.pin p (List.mem_append_left _ z)) (h p), I.hok, I.len⟩

theorem nodup_ix {N : List Str} (hN : N.Nodup) {i j : Nat} {x : Str} (a : N[i]? = some x) (b : N[j]? = some x) : i = j := by
  obtain ⟨h1, e1⟩ := List.getElem?_eq_some_iff.mp a
  obtain ⟨h2, e2⟩ := List.getElem?_eq_some_iff.mp b
  exact (List.getElem_inj hN).mp (e1.trans e2.symm)

/-- a name is stored; what changed -/
theorem store_ok2 {M : Model} {A : Around} {E : Value → Shared → Prop} {i : Nat} {x : Str} {v : V} {u : Value} {Q : Unit → Shared → Prop} (I : Inv X pins σ H s) (hN : X.N.Nodup) (hi : X.N[i]? = some x) (hx : Loc X.env.scope x) (r : RelV v u)
    (h : ∀ s', Inv X pins (σ.set i (some v)) H s' → (∃ a, Heap.SameBut a s.heap s'.heap ∧ (a = X.env.locals ∨ X.env.cells.lookup x = some a)) → Q () s') (hf : X.fn x = true ∨ X.env.scope.names.lookup x = some .local := by first | exact .inl rfl | exact .inr rfl | assumption) : wpAny M A (storeName X.env x u) Q E s := by
  obtain ⟨m, hn, hl⟩ := id I.loc
  have hcls : (X.env.scope.kind == .class || (X.env.scope.kind == .module && X.env.locals != X.env.globals)) = false := by rw [I.ok.kind]; rfl
  have hiσ : i < σ.length := by rw [I.len]; exact (List.getElem?_eq_some_iff.mp hi).1
  have cne := I.cne
  have tracked : ∀ {a : Addr} {h' : Heap}, (∃ o, s.heap.get? a = some o ∧ H a = none) → Heap.SameBut a s.heap h' → HOk X.prog X.w H h' := fun {a h'} ha hs b ob e => by
    obtain ⟨_, _, hfree⟩ := ha
    refine (I.hok b ob e).stay (fun c w' hc q => (hs.2 c ?_).trans q) (fun _ q => q) fun _ _ q => q
    rintro rfl
    rcases hc with rfl | hc
    · rw [hfree] at e; cases e
    · rw [hfree] at hc; cases hc
  rcases hx with hk | hk
  · refine wpAny_storeName_local hk hn (fun h' hn' hs => ?_) hcls
    obtain ⟨oL, _, _, hoL, _⟩ := id hn
    refine h _ ⟨I.ok, I.os, I.bare, ⟨fun b o e n hb hx => ?_, fun b o e n hb hx => ?_, I.base.free, fun b o e hx => ?_, I.base.tups, I.base.frzs, I.base.tbls⟩, ⟨_, hn', fun j y v' e1 e2 e3 => ?_⟩, fun y c e => ?_, I.free, I.freeC, fun p hp => ?_, tracked ⟨oL, hoL, I.free⟩ hs, by simpa using I.len⟩ ⟨_, hs, .inl rfl⟩
    · exact (hs.2 b (Nat.ne_of_lt (Nat.lt_of_lt_of_le (Heap.lt_size e) I.ok.above))).trans (I.base.keep b o e n hb hx)
    · obtain ⟨sl, e1⟩ := I.base.slot b o e n hb hx
      exact ⟨sl, (hs.2 b (Nat.ne_of_lt (Nat.lt_of_lt_of_le (Heap.lt_size e) I.ok.above))).trans e1⟩
    · obtain ⟨o', e1⟩ := I.base.there b o e hx
      exact ⟨o', (hs.2 b (Nat.ne_of_lt (Nat.lt_of_lt_of_le (Heap.lt_size e) I.ok.above))).trans e1⟩
    · by_cases hj : j = i
      · subst hj
        rw [hi] at e1; cases e1
        rw [List.getElem?_set_self hiσ] at e2
        cases e2
        exact ⟨u, r, .inl ⟨hk, by simp⟩⟩
      · rw [List.getElem?_set_ne (Ne.symm hj)] at e2
        obtain ⟨u', r', q⟩ := hl j y v' e1 e2 e3
        refine ⟨u', r', ?_⟩
        rcases q with ⟨k, e⟩ | ⟨k, c, e, z⟩
        · refine .inl ⟨k, ?_⟩
          have : y ≠ x := fun e => hj (nodup_ix hN e1 (e ▸ hi))
          simp [this, e]
        · exact .inr ⟨k, c, e, z.sameBut hs (cne y c e)⟩
    · obtain ⟨w', z⟩ := I.cell y c e
      exact ⟨w', z.sameBut hs (cne y c e)⟩
    · obtain ⟨e, n, ne, nf, d⟩ := I.pin p hp
      exact ⟨(hs.2 p.1 ne).trans e, n, ne, nf, d⟩
  · have hfn : X.fn x = true := by
      rcases hf with z | z
      · exact z
      · rw [z] at hk; cases hk
    obtain ⟨c, hc⟩ := I.ok.has x (.inl hk)
    obtain ⟨w', z⟩ := I.cell x c hc
    refine wpAny_storeName_cell I.ok.kind hk hc z (fun h' hc' hs => ?_)
    obtain ⟨oc, hoc, hocd⟩ := id z
    refine h { s with heap := h' } ⟨I.ok, I.os, I.bare, ⟨fun b o e n hb hx => ?_, fun b o e n hb hx => ?_, I.base.free, fun b o e hx => ?_, I.base.tups, I.base.frzs, I.base.tbls⟩, ⟨m, hn.sameBut hs (Ne.symm (cne x c hc)), fun j y v' e1 e2 e3 => ?_⟩, fun y c' e => ?_, I.free, I.freeC, fun p hp => ?_, tracked ⟨oc, hoc, I.freeC x c hc⟩ hs, by simpa using I.len⟩ ⟨c, hs, .inr hc⟩
    · exact (hs.2 b (Nat.ne_of_lt (Nat.lt_of_lt_of_le (Heap.lt_size e) (I.ok.cab x c hfn hc)))).trans (I.base.keep b o e n hb hx)
    · obtain ⟨sl, e1⟩ := I.base.slot b o e n hb hx
      exact ⟨sl, (hs.2 b (Nat.ne_of_lt (Nat.lt_of_lt_of_le (Heap.lt_size e) (I.ok.cab x c hfn hc)))).trans e1⟩
    · obtain ⟨o', e1⟩ := I.base.there b o e hx
      exact ⟨o', (hs.2 b (Nat.ne_of_lt (Nat.lt_of_lt_of_le (Heap.lt_size e) (I.ok.cab x c hfn hc)))).trans e1⟩
    · by_cases hj : j = i
      · subst hj
        rw [hi] at e1; cases e1
        rw [List.getElem?_set_self hiσ] at e2
        cases e2
        exact ⟨u, r, .inr ⟨.inl hk, c, hc, hc'⟩⟩
      · rw [List.getElem?_set_ne (Ne.symm hj)] at e2
        obtain ⟨u', r', q⟩ := hl j y v' e1 e2 e3
        refine ⟨u', r', ?_⟩
        rcases q with q | ⟨k, c', e, z'⟩
        · exact .inl q
        · refine .inr ⟨k, c', e, z'.sameBut hs ?_⟩
          rintro rfl
          exact hj (nodup_ix hN e1 (I.ok.inj _ _ _ e hc ▸ hi))
    · by_cases hcc : c' = c
      · subst hcc; exact ⟨_, hc'⟩
      · obtain ⟨w2, z2⟩ := I.cell y c' e
        exact ⟨w2, z2.sameBut hs hcc⟩
    · obtain ⟨e, n, ne, nf, d⟩ := I.pin p hp
      refine ⟨(hs.2 p.1 ?_).trans e, n, ne, nf, d⟩
      intro q
      rw [q, hoc] at e
      have q' : oc = p.2 := Option.some.inj e
      exact d w' (by rw [← q']; exact hocd)
theorem store_ok {M : Model} {A : Around} {E : Value → Shared → Prop} {i : Nat} {x : Str} {v : V} {u : Value} {Q : Unit → Shared → Prop} (I : Inv X pins σ H s) (hN : X.N.Nodup) (hi : X.N[i]? = some x) (hx : Loc X.env.scope x) (r : RelV v u)
    (h : ∀ s', Inv X pins (σ.set i (some v)) H s' → Q () s') (hf : X.fn x = true ∨ X.env.scope.names.lookup x = some .local := by first | exact .inl rfl | exact .inr rfl | assumption) : wpAny M A (storeName X.env x u) Q E s :=
  store_ok2 I hN hi hx r (fun s' I' _ => h s' I') hf
/-- behind a call or a block, the state as it is -/
theorem Inv.call' {s' : Shared} {ch : List Addr} (I : Inv X pins σ H s) (ho : s'.os = s.os) (u : Un (frs X.stack) ch H H' s.heap s'.heap) (hok : HOk X.prog X.w H' s'.heap) (hg : AllBare s'.gens)
    (hch : ∀ b ∈ ch, (b ∈ X.ex ∨ X.s_0.heap.objs.size ≤ b) ∧ b ≠ X.env.locals ∧ (∀ x c, X.env.cells.lookup x = some c → c ≠ b) ∧ ∀ p ∈ X.pn ++ pins, p.1 ≠ b) : Inv X pins σ H' s' := by
  obtain ⟨h', g', d', t', o'⟩ := s'
  have e : o' = s.os := ho
  subst e
  exact I.call (g' := g') (t' := t') (d' := d') u hok hg hch
end

/-! ### the judgements -/
/-- an exception: its class, its own dict's address (where it has one), the abstract heap behind it -/
abbrev XK := Value → Option Addr → Hp → Prop
abbrev St := List (Option V)
abbrev VK := V → Hp → Prop
/-- an expression's reading; a test's; an argument list's -/
abbrev TE := St → Hp → VK → Prop
abbrev TT := St → Hp → (Bool → Hp → Prop) → Prop
abbrev TA := St → Hp → (List V → Hp → Prop) → Prop
/-- what is wanted behind a statement -/
structure Ends where
  nx : St → Hp → Prop
  rt : VK
  bk : St → Hp → Prop := fun _ _ => False
  ct : St → Hp → Prop := fun _ _ => False
abbrev TS := Ends → St → Hp → Prop

def EP (X : Cx) (pins : List (Addr × Obj)) (σ : St) (Q : VK) (u : Value) (s' : Shared) : Prop := ∃ v H', Inv X pins σ H' s' ∧ RelV v u ∧ Q v H'
def TP (X : Cx) (pins : List (Addr × Obj)) (σ : St) (Q : Bool → Hp → Prop) (b : Bool) (s' : Shared) : Prop := ∃ H', Inv X pins σ H' s' ∧ Q b H'
def AP (X : Cx) (pins : List (Addr × Obj)) (σ : St) (Q : List V → Hp → Prop) (us : List Value) (s' : Shared) : Prop := ∃ vs H', Inv X pins σ H' s' ∧ Vals vs us ∧ Q vs H'
def SP (X : Cx) (pins : List (Addr × Obj)) (D : Ends) (f : Flow) (s' : Shared) : Prop :=
  match f with
  | .next => ∃ σ' H', Inv X pins σ' H' s' ∧ D.nx σ' H'
  | .brk => ∃ σ' H', Inv X pins σ' H' s' ∧ D.bk σ' H'
  | .cont => ∃ σ' H', Inv X pins σ' H' s' ∧ D.ct σ' H'
  | .ret u => ∃ v σ' H', Inv X pins σ' H' s' ∧ RelV v u ∧ D.rt v H'

def PE (X : Cx) (e : Expr) (t : TE) : Prop :=
  ∀ (pins : List (Addr × Obj)) (s : Shared) (σ : St) (H : Hp) (Q : VK), Inv X pins σ H s → t σ H Q → wpAny (model X.prog X.w) X.A (eval e X.env) (EP X pins σ Q) X.xe s
def PT (X : Cx) (e : Expr) (t : TT) : Prop :=
  ∀ (pins : List (Addr × Obj)) (s : Shared) (σ : St) (H : Hp) (Q : Bool → Hp → Prop), Inv X pins σ H s → t σ H Q → wpAny (model X.prog X.w) X.A (isTrue e X.env (eval e X.env)) (TP X pins σ Q) X.xe s
/-- a test whatever its 'whole' is (and, or) -/
def PW (X : Cx) (e : Expr) (t : TT) : Prop :=
  ∀ (whole : Sem Value) (pins : List (Addr × Obj)) (s : Shared) (σ : St) (H : Hp) (Q : Bool → Hp → Prop), Inv X pins σ H s → t σ H Q → wpAny (model X.prog X.w) X.A (isTrue e X.env whole) (TP X pins σ Q) X.xe s
theorem PW.pt {X : Cx} {e : Expr} {t : TT} (h : PW X e t) : PT X e t := h _
/-- an argument list (no star), from the left -/
def PA (X : Cx) (es : List Expr) (t : TA) : Prop :=
  ∀ (pos : Pos) (pins : List (Addr × Obj)) (s : Shared) (σ : St) (H : Hp) (Q : List V → Hp → Prop), Inv X pins σ H s → t σ H Q → wpAny (model X.prog X.w) X.A (spliced (backTo pos (starEach es X.env))) (AP X pins σ Q) X.xe s
def PS (X : Cx) (st : Stmt) (t : TS) : Prop :=
  ∀ (pins : List (Addr × Obj)) (s : Shared) (σ : St) (H : Hp) (D : Ends), Inv X pins σ H s → t D σ H → wpAny (model X.prog X.w) X.A (exec st X.env) (SP X pins D) X.xe s
def PSs (X : Cx) (st : List Stmt) (t : TS) : Prop :=
  ∀ (pins : List (Addr × Obj)) (s : Shared) (σ : St) (H : Hp) (D : Ends), Inv X pins σ H s → t D σ H → wpAny (model X.prog X.w) X.A (execs st X.env) (SP X pins D) X.xe s
/-- weaken the end -/
theorem thn {α : Type} {t : Sem α} {Q Q' : α → Shared → Prop} {M : Model} {A : Around} {E : Value → Shared → Prop} {s : Shared} (h : wpAny M A t Q E s) (hQ : ∀ a s, Q a s → Q' a s) : wpAny M A t Q' E s := wpAny_mono h hQ fun _ _ x => x
end L2

namespace L2
open PySem PySem.Spec PyProof.Rows
section
variable {X : Cx}

/-! ### names and constants -/
def tVar (i : Nat) : TE := fun σ H Q => ∃ v, σ[i]? = some (some v) ∧ Q v H
def tC (v : V) : TE := fun _ H Q => Q v H
theorem pe_var {i : Nat} {x : Str} {pos : Pos} (hN : X.N[i]? = some x) (hv : Vis X.env.scope x) (hd : (x == ("__debug__" : Str)) = false := by decide) (hcd : (x == ("__classdict__" : Str)) = false := by decide) : PE X (.Name x pos) (tVar i) := by
  intro pins s σ H Q I h
  obtain ⟨v, e, h⟩ := h
  obtain ⟨m, hn, hl⟩ := I.loc
  obtain ⟨u, r, l⟩ := hl i x v hN e hv
  have fin : EP X pins σ Q u s := ⟨v, H, I, r, h⟩
  rcases l with ⟨hk, hm⟩ | ⟨hk, c, hc, hcell⟩
  · exact wpAny_Name (wpAny_loadName_local I.ok.kind hk hn hm fin) hd
  · rcases hk with hk | hk
    · exact wpAny_Name (wpAny_loadName_cell I.ok.kind hk hc hcell fin) hd
    · exact wpAny_Name (wpAny_loadName_free I.ok.kind hk hc hcell fin hcd) hd
theorem pe_int {i j pos} : PE X (.Constant (.int i) j pos) (tC (.int i)) := fun _ _ _ H _ I h => wpAny_Constant_int ⟨.int i, H, I.tok _, ⟨_, rfl⟩, h⟩
theorem pe_bl {b j pos} : PE X (.Constant (.bool b) j pos) (tC (.bl b)) := fun _ _ _ H _ I h => Constant_bool ⟨.bl b, H, I, rfl, h⟩
/-- a global name of the def -/
def Gl (X : Cx) (x : Str) : Prop := X.env.kindOf x = some .globalImplicit
theorem ld_glob {E : Value → Shared → Prop} {pins : List (Addr × Obj)} {s : Shared} {σ : St} {H : Hp} {x : Str} {u : Value} {pos : Pos} {Q : Value → Shared → Prop} (I : Inv X pins σ H s) (hg : Gl X x) (hm : X.mg x = some u) (h : Q u s)
    (hd : (x == ("__debug__" : Str)) = false := by decide) : wpAny (model X.prog X.w) X.A (eval (.Name x pos) X.env) Q E s :=
  Calls.Name_function_global I.ok.kind hg (Calls.loadGlobal_global (by rw [I.ok.glob]; exact I.mod.glob.keeps I.bk) hm h) hd
theorem ld_blt {E : Value → Shared → Prop} {pins : List (Addr × Obj)} {s : Shared} {σ : St} {H : Hp} {x : Str} {u : Value} {pos : Pos} {Q : Value → Shared → Prop} (I : Inv X pins σ H s) (hg : Gl X x) (hm : X.mg x = none) (hv : bootBuiltins x = some u) (h : Q u s)
    (hn : x ≠ "__name__" := by decide) (hd : (x == ("__debug__" : Str)) = false := by decide) : wpAny (model X.prog X.w) X.A (eval (.Name x pos) X.env) Q E s := by
  obtain ⟨mb, h1, h2⟩ := I.mod.blt
  exact Calls.Name_function_global I.ok.kind hg (Calls.loadGlobal_builtin (by rw [I.ok.glob]; exact I.mod.glob.keeps I.bk) hm (by rw [I.ok.blt]; exact h1.keeps I.bk) ((h2 x hn).trans hv) h) hd
/-- a module's constant, a class, a function, as a value -/
theorem pe_glob {x : Str} {v : V} {u : Value} {pos : Pos} (hg : Gl X x) (hm : X.mg x = some u) (r : RelV v u) (hd : (x == ("__debug__" : Str)) = false := by decide) : PE X (.Name x pos) (tC v) :=
  fun _ _ _ H _ I h => ld_glob I hg hm ⟨v, H, I, r, h⟩ hd
/-! ### arithmetic -/
variable {a b : Expr} {ta tb : TE} {pos : Pos}
/-! ### comparisons -/
/-- a comparison as a value, as a test -/
def tB (t : TE) : TT := fun σ H Q => t σ H fun x H1 => ∃ c, x = .bl c ∧ Q c H1
/-- an expression whose value is a bool, as a test -/
theorem pt_val {e : Expr} {t : TE} (h : PE X e t) (he : ∀ whole, isTrue e X.env whole = (do let v ← whole; standAt e.pos; holding [v] (truthy v)) := by intro _; rfl) : PT X e (tB t) := by
  intro pins s σ H Q I hw
  refine isTrue_plain (thn (h pins s σ H _ I hw) fun v s1 ⟨x, H1, I1, r1, q1⟩ => ?_) (he _)
  obtain ⟨d, rfl, q⟩ := q1
  cases r1
  exact wpAny_truthy_bool ⟨H1, I1, q⟩

/-! ### and, or, not -/
variable {tA tB' : TT} {rest : List Expr}
def tAnd (t u : TT) : TT := fun σ H Q => t σ H fun c H1 => if c = true then u σ H1 Q else Q false H1
def tOr (t u : TT) : TT := fun σ H Q => t σ H fun c H1 => if c = true then Q true H1 else u σ H1 Q
def tNot (t : TT) : TT := fun σ H Q => t σ H fun c H1 => Q (!c) H1
theorem pw_and1 (ha : PT X a tA) : PW X (.BoolOp .And [a] pos) tA := by
  intro wh pins s σ H Q I h
  refine isTrue_and (thn (ha pins s σ H Q I h) fun c s1 e => ?_)
  cases c with
  | true => exact isTrue_and_nil e
  | false => exact e
theorem pw_or1 (ha : PT X a tA) : PW X (.BoolOp .Or [a] pos) tA := by
  intro wh pins s σ H Q I h
  refine isTrue_or (thn (ha pins s σ H Q I h) fun c s1 e => ?_)
  cases c with
  | false => exact isTrue_or_nil e
  | true => exact e
theorem pw_and (ha : PT X a tA) (hb : PW X (.BoolOp .And (b :: rest) pos) tB') : PW X (.BoolOp .And (a :: b :: rest) pos) (tAnd tA tB') := by
  intro wh pins s σ H Q I h
  refine isTrue_and (thn (ha pins s σ H _ I h) fun c s1 ⟨H1, I1, q1⟩ => ?_)
  cases c with
  | true => exact hb wh pins s1 σ H1 Q I1 q1
  | false => exact ⟨H1, I1, q1⟩
theorem pw_or (ha : PT X a tA) (hb : PW X (.BoolOp .Or (b :: rest) pos) tB') : PW X (.BoolOp .Or (a :: b :: rest) pos) (tOr tA tB') := by
  intro wh pins s σ H Q I h
  refine isTrue_or (thn (ha pins s σ H _ I h) fun c s1 ⟨H1, I1, q1⟩ => ?_)
  cases c with
  | true => exact ⟨H1, I1, q1⟩
  | false => exact hb wh pins s1 σ H1 Q I1 q1
theorem pt_not (ha : PT X a tA) : PT X (.UnaryOp .Not a pos) (tNot tA) := by
  intro pins s σ H Q I h
  exact isTrue_not (ha pins s σ H (fun c H1 => Q (!c) H1) I h)
/-- .. as values (bools) -/
def tAndV (ta tb : TE) : TE := fun σ H Q => ta σ H fun x H1 => ∃ c, x = .bl c ∧ if c = true then tb σ H1 Q else Q (.bl false) H1
theorem pe_one {op} {t : TE} (h : PE X a t) : PE X (.BoolOp op [a] pos) t := fun pins s σ H Q I hw => BoolOp_one (h pins s σ H Q I hw)
theorem pe_and (ha : PE X a ta) (hb : PE X (.BoolOp .And (b :: rest) pos) tb) : PE X (.BoolOp .And (a :: b :: rest) pos) (tAndV ta tb) := by
  intro pins s σ H Q I h
  refine BoolOp_and (thn (ha pins s σ H _ I h) fun v s1 ⟨x, H1, I1, r1, q1⟩ => ?_)
  obtain ⟨c, rfl, q1⟩ := q1
  cases r1
  refine wpAny_truthy_bool ?_
  cases c with
  | true => exact hb pins s1 σ H1 Q I1 q1
  | false => exact ⟨.bl false, H1, I1, rfl, q1⟩
end
end L2

namespace L2
open PySem PySem.Spec PyProof.Rows

/-! ### a list, a tuple that is read: tracked, frozen, or an object of the module -/
def SqL (K : PySem.W.Frag) (H : Hp) (a : Addr) (xs : List V) : Prop :=
  Rd H a (.lst xs) ∨
    ∃ (o : Obj) (its : Array Value) (n : Nat), K.lookup a = some o ∧ o.cls = .type "list" ∧ o.dict = none ∧ o.data = .seq its n ∧ its.size ≤ sizeLine ∧ Vals xs its.toList
def SqT (K : PySem.W.Frag) (H : Hp) (a : Addr) (xs : List V) : Prop :=
  Rd H a (.tup xs) ∨
    ∃ (o : Obj) (its : Array Value) (n : Nat), K.lookup a = some o ∧ o.cls = .type "tuple" ∧ o.data = .seq its n ∧ its.size ≤ sizeLine ∧ Vals xs its.toList
def absV : Value → Option V
  | .none => some .non
  | .bool b => some (.bl b)
  | .int i _ => some (.int i)
  | .str x _ => some (.str x)
  | .bytes b _ => some (.byt b)
  | .float b _ => some (.flt b)
  | .ref a => some (.ref a)
  | .type n => some (.ty n)
  | _ => none
theorem RelV.abs {x : V} {u : Value} (r : RelV x u) : absV u = some x := by
  cases x with
  | non => cases r; rfl
  | bl _ => cases r; rfl
  | int _ => obtain ⟨t, rfl⟩ := r; rfl
  | str _ => obtain ⟨t, rfl⟩ := r; rfl
  | byt _ => obtain ⟨t, rfl⟩ := r; rfl
  | flt _ => obtain ⟨t, rfl⟩ := r; rfl
  | ref _ => cases r; rfl
  | ty _ => cases r; rfl
theorem RelV.inj {x y : V} {u : Value} (r : RelV x u) (q : RelV y u) : x = y := Option.some.inj (r.abs.symm.trans q.abs)
theorem Vals.inj : ∀ {xs ys : List V} {us : List Value}, Vals xs us → Vals ys us → xs = ys
  | _, _, _, .nil, .nil => rfl
  | _, _, _, .cons r t, .cons r' t' => by rw [r.inj r', Vals.inj t t']
section
variable {X : Cx} {pins : List (Addr × Obj)} {σ : St} {H : Hp} {s : Shared} {a : Addr} {xs ys : List V}
theorem SqL.of {K : PySem.W.Frag} (h : H a = some (.lst xs)) : SqL K H a xs := .inl (.inl h)
theorem SqT.of {K : PySem.W.Frag} (h : H a = some (.tup xs)) : SqT K H a xs := .inl (.inl h)
theorem Inv.list (I : Inv X pins σ H s) (h : SqL X.K H a xs) : ∃ its : List Value, Vals xs its ∧ PlainL s.heap a its.toArray ∧ xs.length ≤ sizeLine := by
  rcases h with h | ⟨o, its, n, hk, hc, hd, hs, hz, r⟩
  · obtain ⟨z, its, n, r, e⟩ := h.ok I.hok
    exact ⟨its, r, ⟨_, n, e, rfl, rfl, rfl⟩, z⟩
  · refine ⟨its.toList, r, ⟨o, n, I.kIn a o hk, hc, hd, by simpa using hs⟩, ?_⟩
    have e := r.length
    simp only [Array.length_toList] at e
    omega
theorem Inv.tuple (I : Inv X pins σ H s) (h : SqT X.K H a xs) : ∃ its : List Value, Vals xs its ∧ IsTup s.heap a its.toArray ∧ xs.length ≤ sizeLine := by
  rcases h with h | ⟨o, its, n, hk, hc, hs, hz, r⟩
  · obtain ⟨z, its, r, p⟩ := h.ok I.hok
    exact ⟨its, r, p, z⟩
  · refine ⟨its.toList, r, ⟨o, I.kIn a o hk, hc, n, by simpa using hs⟩, ?_⟩
    have e := r.length
    simp only [Array.length_toList] at e
    omega
theorem Inv.list_inj (I : Inv X pins σ H s) (h : SqL X.K H a xs) (h' : SqL X.K H a ys) : xs = ys := by
  obtain ⟨its, r, ⟨o, n, e, _, _, d⟩, _⟩ := I.list h
  obtain ⟨its', r', ⟨o', n', e', _, _, d'⟩, _⟩ := I.list h'
  rw [e] at e'; cases e'
  rw [d] at d'
  injection d' with d1 _
  have : its = its' := by simpa using congrArg Array.toList d1
  subst this
  exact r.inj r'
end

/-! ### another wish about exceptions -/
abbrev Cx.wish (X : Cx) (E : Value → Shared → Prop) : Cx := { X with xe := E }
/-- no exception leaves -/
abbrev Cx.nox (X : Cx) : Cx := X.wish fun _ _ => False
theorem Cx.Ok.wish {X : Cx} (ok : X.Ok) (E : Value → Shared → Prop) : (X.wish E).Ok :=
  ⟨ok.mod, ok.kind, ok.glob, ok.blt, ok.above, ok.inj, ok.has, ok.cab, ok.hd, ok.frames, ok.stk, ok.exf, ok.bs, ok.bsz, ok.noex, ok.exfs, ok.funs, ok.frf⟩
theorem Cx.Ok.unwish {X : Cx} {E : Value → Shared → Prop} (ok : (X.wish E).Ok) : X.Ok :=
  ⟨ok.mod, ok.kind, ok.glob, ok.blt, ok.above, ok.inj, ok.has, ok.cab, ok.hd, ok.frames, ok.stk, ok.exf, ok.bs, ok.bsz, ok.noex, ok.exfs, ok.funs, ok.frf⟩
section
variable {X : Cx} {pins : List (Addr × Obj)} {σ : St} {H : Hp} {s : Shared} {E : Value → Shared → Prop}
theorem Inv.wish (I : Inv X pins σ H s) (E : Value → Shared → Prop) : Inv (X.wish E) pins σ H s := ⟨I.ok.wish E, I.os, I.bare, I.base, I.loc, I.cell, I.free, I.freeC, I.pin, I.hok, I.len⟩
theorem Inv.unwish (I : Inv (X.wish E) pins σ H s) : Inv X pins σ H s := ⟨I.ok.unwish, I.os, I.bare, I.base, I.loc, I.cell, I.free, I.freeC, I.pin, I.hok, I.len⟩
theorem SP.unwish {D : Ends} {f : Flow} {s' : Shared} (h : SP (X.wish E) pins D f s') : SP X pins D f s' := by
  cases f with
  | next => obtain ⟨σ', H', I, q⟩ := h; exact ⟨σ', H', I.unwish, q⟩
  | brk => obtain ⟨σ', H', I, q⟩ := h; exact ⟨σ', H', I.unwish, q⟩
  | cont => obtain ⟨σ', H', I, q⟩ := h; exact ⟨σ', H', I.unwish, q⟩
  | ret u => obtain ⟨v, σ', H', I, r, q⟩ := h; exact ⟨v, σ', H', I.unwish, r, q⟩
theorem PSs.nox {st : List Stmt} {t : TS} (h : PSs X.nox st t) : PSs X st t := fun pins s σ H D I hw =>
  wpAny_mono (h pins s σ H D (I.wish _) hw) (fun _ _ q => q.unwish) fun _ _ z => False.elim z
end

/-! ### blocks and small statements -/
section
variable {X : Cx} {st : Stmt} {rest : List Stmt} {t u : TS} {e : Expr} {te : TE} {pos : Pos}
def tNext : TS := fun D σ H => D.nx σ H
def tSeq (t u : TS) : TS := fun D σ H => t { D with nx := u D } σ H
theorem pss_nil : PSs X [] tNext := fun _ _ σ H _ I h => wpAny_execs_nil ⟨σ, H, I, h⟩
theorem pss_cons (h1 : PS X st t) (h2 : PSs X rest u) : PSs X (st :: rest) (tSeq t u) := by
  intro pins s σ H D I h
  refine wpAny_execs_cons (thn (h1 pins s σ H { D with nx := u D } I h) fun f s1 q => ?_)
  cases f with
  | next =>
    obtain ⟨σ', H', I', q⟩ := q
    exact h2 pins s1 σ' H' D I' q
  | ret v => exact q
  | brk => exact q
  | cont => exact q
theorem pss_one (h1 : PS X st t) : PSs X [st] t := by
  intro pins s σ H D I h
  refine wpAny_execs_cons (thn (h1 pins s σ H D I h) fun f s1 q => ?_)
  cases f with
  | next => exact wpAny_execs_nil q
  | ret v => exact q
  | brk => exact q
  | cont => exact q
/-- in a def's body nothing is shown -/
theorem Inv.quiet {pins : List (Addr × Obj)} {σ : St} {H : Hp} {s : Shared} (I : Inv X pins σ H s) : interactive X.env = false := by simp [interactive, I.ok.kind]
/-- an expression whose value is dropped -/
def tDrop (te : TE) : TS := fun D σ H => te σ H fun _ H1 => D.nx σ H1
theorem ps_expr (he : PE X e te) (hs : swapsWith e none pos.line X.env = pure false := by rfl) : PS X (.Expr e pos) (tDrop te) := by
  intro pins s σ H D I h
  exact wpAny_Expr_any (thn (he pins s σ H _ I h) fun v s1 ⟨x, H1, I1, r1, q1⟩ => ⟨σ, H1, I1, q1⟩) I.quiet hs
def tRet (te : TE) : TS := fun D σ H => te σ H D.rt
theorem ps_ret (he : PE X e te) : PS X (.Return (some e) pos) (tRet te) := by
  intro pins s σ H D I h
  exact wpAny_Return_some (thn (he pins s σ H _ I h) fun v s1 ⟨x, H1, I1, r1, q1⟩ => ⟨x, σ, H1, I1, r1, q1⟩)
def tIfS (c : TT) (t u : TS) : TS := fun D σ H => c σ H fun b H1 => if b = true then t D σ H1 else u D σ H1
theorem ps_if {c : Expr} {a b : List Stmt} {tc : TT} (hc : PT X c tc) (ha : PSs X a t) (hb : PSs X b u) : PS X (.If c a b pos) (tIfS tc t u) := by
  intro pins s σ H D I h
  refine wpAny_If (thn (hc pins s σ H _ I h) fun d s1 ⟨H1, I1, q1⟩ => ?_)
  cases d with
  | true => exact ha pins s1 σ H1 D I1 q1
  | false => exact hb pins s1 σ H1 D I1 q1
/-- code that the proof never comes to -/
def tNever : TS := fun _ _ _ => False
theorem pss_never {sts : List Stmt} : PSs X sts tNever := fun _ _ _ _ _ _ h => h.elim
end

/-! ### targets -/
abbrev TG := V → St → Hp → (St → Hp → Prop) → Prop
abbrev TGs := List V → St → Hp → (St → Hp → Prop) → Prop
def PG (X : Cx) (target : Expr) (t : TG) : Prop :=
  ∀ (pins : List (Addr × Obj)) (s : Shared) (σ : St) (H : Hp) (v : V) (u : Value) (Q : St → Hp → Prop), Inv X pins σ H s → RelV v u → t v σ H Q →
    wpAny (model X.prog X.w) X.A (assign target X.env u) (fun _ s' => ∃ σ' H', Inv X pins σ' H' s' ∧ Q σ' H') X.xe s
/-- several targets, one after another -/
def PGs (X : Cx) (ts : List Expr) (t : TGs) : Prop :=
  ∀ (pins : List (Addr × Obj)) (s : Shared) (σ : St) (H : Hp) (vs : List V) (us : List Value) (Q : St → Hp → Prop), Inv X pins σ H s → Vals vs us → t vs σ H Q →
    wpAny (model X.prog X.w) X.A (assignInOrder ((assignEach ts X.env).map (·.2)) us) (fun _ s' => ∃ σ' H', Inv X pins σ' H' s' ∧ Q σ' H') X.xe s
/-- o[i] = v, by values -/
abbrev TSet := V → V → V → Hp → (Hp → Prop) → Prop
def PSet (X : Cx) (t : TSet) : Prop :=
  ∀ (pins : List (Addr × Obj)) (s : Shared) (σ : St) (H : Hp) (o i v : V) (ov iv u : Value) (Q : Hp → Prop), Inv X pins σ H s → RelV o ov → RelV i iv → RelV v u → t o i v H Q →
    wpAny (model X.prog X.w) X.A (setItem ov iv u) (fun _ s' => ∃ H', Inv X pins σ H' s' ∧ Q H') X.xe s
section
variable {X : Cx} {pos : Pos}
def gName (i : Nat) : TG := fun v σ H Q => Q (σ.set i (some v)) H
theorem pg_name {i : Nat} {x : Str} (hN : X.N.Nodup) (hi : X.N[i]? = some x) (hx : Loc X.env.scope x) (hf : X.fn x = true ∨ X.env.scope.names.lookup x = some .local := by first | exact .inl rfl | exact .inr rfl | assumption) : PG X (.Name x pos) (gName i) := by
  intro pins s σ H v u Q I r h
  exact wpAny_assign_Name (store_ok I hN hi hx r (fun s' I' => ⟨_, H, I', h⟩) hf)
def gNil : TGs := fun vs σ H Q => vs = [] ∧ Q σ H
def gCons (t : TG) (u : TGs) : TGs := fun vs σ H Q => ∃ v r, vs = v :: r ∧ t v σ H fun σ' H' => u r σ' H' Q
theorem pgs_nil : PGs X [] gNil := by
  intro pins s σ H vs us Q I r h
  obtain ⟨e, h⟩ := h
  subst e
  cases r
  exact assignInOrder_nil ⟨σ, H, I, h⟩
theorem pgs_cons {e : Expr} {es : List Expr} {t : TG} {u : TGs} (h1 : PG X e t) (h2 : PGs X es u)
    (hs : (assignEach (e :: es) X.env).map (·.2) = assign e X.env :: (assignEach es X.env).map (·.2) := by rfl) : PGs X (e :: es) (gCons t u) := by
  intro pins s σ H vs us Q I r h
  obtain ⟨v, vr, e1, h⟩ := h
  subst e1
  cases r with
  | cons r rr =>
    rw [hs]
    refine assignInOrder_cons (thn (h1 pins s σ H _ _ _ I r h) fun _ s1 ⟨σ1, H1, I1, q1⟩ => ?_)
    exact h2 pins s1 σ1 H1 _ _ Q I1 rr q1
/-- (a, b, ..) = a tuple of that length -/
def gTup (K : PySem.W.Frag) (n : Nat) (t : TGs) : TG := fun v σ H Q => ∃ a xs, v = .ref a ∧ SqT K H a xs ∧ xs.length = n ∧ t xs σ H Q
theorem pg_tup {es : List Expr} {k : Nat} {t : TGs} {n : Nat} (hc : X.calm = true) (h : PGs X es t)
    (hn : (assignEach es X.env).length = n := by rfl) (hst : (assignEach es X.env).findIdx? (·.1) = none := by rfl) : PG X (.Tuple es k pos) (gTup X.K n t) := by
  intro pins s σ H v u Q I r hw
  obtain ⟨a, xs, e1, hq, hl, hw⟩ := hw
  subst e1
  cases r
  obtain ⟨its, rv, ht, hz⟩ := I.tuple hq
  refine assign_Tuple_tuple (I.ok.hd hc) ht (by simp [hn, ← hl, rv.length]) hst fun h' hx => ?_
  have I1 : Inv X pins σ H { s with heap := h' } := I.kept (t' := s.toks) fun b o e => hx b o (Nat.ne_of_lt (Heap.lt_size e)) e
  exact h pins _ σ H xs _ Q I1 (by simpa using rv) hw
/-- o[i] = .. -/
def gSub (to ti : TE) (t : TSet) : TG := fun v σ H Q => to σ H fun o H1 => ti σ H1 fun i H2 => t o i v H2 fun H3 => Q σ H3
theorem pg_sub {o i : Expr} {to ti : TE} {t : TSet} (ho : PE X o to) (hi : PE X i ti) (hs : PSet X t)
    (ha : ∀ v, assign (.Subscript o i pos) X.env v = (do
      let ov ← holding [v] (eval o X.env)
      let iv ← holding [v, ov] (eval i X.env)
      standAt pos
      holding [v, ov, iv] (setItem ov iv v)
      release [v, ov, iv] []) := by intro _; rfl) : PG X (.Subscript o i pos) (gSub to ti t) := by
  intro pins s σ H v u Q I r h
  rw [ha]
  refine wpAny_bind (wpAny_holding (thn (ho pins s σ H _ I h) fun ov s1 ⟨x, H1, I1, r1, q1⟩ => ?_))
  refine wpAny_bind (wpAny_holding (thn (hi pins s1 σ H1 _ I1 q1) fun iv s2 ⟨y, H2, I2, r2, q2⟩ => ?_))
  refine wpAny_bind (wpAny_standAt (wpAny_bind (wpAny_holding (thn (hs pins s2 σ H2 x y v ov iv u _ I2 r1 r2 r q2) fun _ s3 ⟨H3, I3, q3⟩ => ?_))))
  exact wpAny_release ⟨σ, H3, I3, q3⟩
/-- target = value -/
def tAsg (te : TE) (g : TG) : TS := fun D σ H => te σ H fun x H1 => g x σ H1 D.nx
theorem ps_asg {tg e : Expr} {te : TE} {g : TG} (he : PE X e te) (hg : PG X tg g) (hs : swapsWithSole [tg] e pos.line X.env = pure false := by rfl) (hw : swappedStores [tg] e X.env = pure none := by rfl)
    (h1 : (assignEach [tg] X.env).map (·.2) = [assign tg X.env] := by rfl) : PS X (.Assign [tg] e pos) (tAsg te g) := by
  intro pins s σ H D I h
  refine wpAny_Assign_stores (thn (he pins s σ H _ I h) fun v s1 ⟨x, H1, I1, r1, q1⟩ => ?_) hs hw
  rw [h1]
  exact thn (hg pins s1 σ H1 x v _ I1 r1 q1) fun _ s2 q => q
/-- name = value -/
theorem ps_set {i : Nat} {x : Str} {e : Expr} {te : TE} {pos' : Pos} (hN : X.N.Nodup) (hi : X.N[i]? = some x) (hx : Loc X.env.scope x) (he : PE X e te) (hs : swapsWith e (some (.Name x pos')) pos.line X.env = pure false := by rfl) (hf : X.fn x = true ∨ X.env.scope.names.lookup x = some .local := by first | exact .inl rfl | exact .inr rfl | assumption) :
    PS X (.Assign [.Name x pos'] e pos) (tAsg te (gName i)) := by
  intro pins s σ H D I h
  refine wpAny_Assign_Name (thn (he pins s σ H _ I h) fun v s1 ⟨y, H1, I1, r1, q1⟩ => ?_) hs
  exact store_ok I1 hN hi hx r1 (fun s2 I2 => ⟨_, H1, I2, q1⟩) hf
end

/-! ### while -/
section
variable {X : Cx} {pos : Pos}
/-- the invariant W with its measure -/
def tWhile (c : TT) (tb : TS) : TS := fun D σ H => ∃ W : Nat → St → Hp → Prop, (∃ m, W m σ H) ∧ ∀ m σ H, W m σ H →
  c σ H fun b H1 => if b = true then ∃ N : St → Hp → Prop, (∀ σ' H', N σ' H' → ∃ m', m' < m ∧ W m' σ' H') ∧ tb { D with nx := N, ct := N, bk := D.nx } σ H1 else D.nx σ H1
theorem ps_while {c : Expr} {body : List Stmt} {tc : TT} {tb : TS} (hp : PassesOwn (model X.prog X.w) X.A X.env X.xe) (hc : PT X c tc) (hb : PSs X body tb) : PS X (.While c body [] pos) (tWhile tc tb) := by
  intro pins s σ H D I h
  obtain ⟨W, ⟨m0, w0⟩, turn⟩ := h
  refine wpAny_While (codeAny_whileLoop (fun n s' => ∃ σ' H', Inv X pins σ' H' s' ∧ W n σ' H') ?_ m0 ⟨σ, H, I, w0⟩)
  rintro n s1 ⟨σ1, H1, I1, w1⟩
  refine wpAny_passesOwn hp (thn (hc pins s1 σ1 H1 _ I1 (turn n σ1 H1 w1)) fun b s2 ⟨H2, I2, q2⟩ => ?_)
  cases b with
  | true =>
    obtain ⟨N, hN, q2⟩ := q2
    rw [if_pos rfl]
    refine wpAny_passesOwn hp (thn (hb pins s2 σ1 H2 _ I2 q2) fun f s3 q3 => ?_)
    cases f with
    | next =>
      obtain ⟨σ3, H3, I3, n3⟩ := q3
      obtain ⟨m', hm, w3⟩ := hN σ3 H3 n3
      exact ⟨m', hm, σ3, H3, I3, w3⟩
    | cont =>
      obtain ⟨σ3, H3, I3, n3⟩ := q3
      obtain ⟨m', hm, w3⟩ := hN σ3 H3 n3
      exact ⟨m', hm, σ3, H3, I3, w3⟩
    | brk => exact q3
    | ret v => exact q3
  | false =>
    rw [if_neg Bool.false_ne_true]
    exact wpAny_execs_nil ⟨σ1, H2, I2, q2⟩
end

/-! ### what a loop or a comprehension walks -/
/-- at turn i: it yields x (the heap may grow), or it stops -/
structure It where
  go : Nat → Hp → Prop
  yld : Nat → Hp → V → Hp → Prop
  stop : Nat → Hp → Prop
/-- the iterator's own objects may turn: they are not the frame's, not pinned, younger than the entry (or a comprehension's own) -/
def FpOk (X : Cx) (pins : List (Addr × Obj)) (H : Hp) (b : Addr) : Prop :=
  H b = none ∧ b ≠ X.env.locals ∧ b ∉ X.fs ∧ (b ∈ X.ex ∨ X.s_0.heap.objs.size ≤ b) ∧ (∀ x c, X.env.cells.lookup x = some c → c ≠ b) ∧ ∀ p ∈ X.pn ++ pins, p.1 ≠ b
theorem Inv.fpOk {X : Cx} {pins : List (Addr × Obj)} {σ : St} {H H' : Hp} {s : Shared} {b : Addr} (I : Inv X pins σ H s) (hb : s.heap.objs.size ≤ b) (hn : H' b = none) : FpOk X pins H' b := by
  refine ⟨hn, Nat.ne_of_gt (Nat.lt_of_lt_of_le I.lt hb), I.nofs hb, .inr (Nat.le_trans I.sz hb), fun x c e z => ?_, fun p hp z => ?_⟩
  · obtain ⟨v, q⟩ := I.cell x c e
    exact absurd (Nat.lt_of_lt_of_le q.lt (by rw [z]; exact hb)) (Nat.lt_irrefl _)
  · exact absurd (Nat.lt_of_lt_of_le (Heap.lt_size (I.pin p hp).1) (by rw [z]; exact hb)) (Nat.lt_irrefl _)
structure Turn (P : Program) (w : World) (K : PySem.W.Frag) (tg : Expr) (J : It) (fp : List Addr) (it : Addr) (tn : Nat → Heap → Prop) : Prop where
  mem : it ∈ fp
  obj : ∀ i h, tn i h → ∀ b ∈ fp, ∃ o, h.get? b = some o ∧ ∀ v, o.data ≠ .cell v
  keep : ∀ i h h', tn i h → (∀ b ∈ fp, ∀ o, h.get? b = some o → h'.get? b = some o) → tn i h'
  item : ∀ (X : Cx), X.prog = P → X.w = w → X.K = K → X.calm = true → ∀ (i : Nat) (pins : List (Addr × Obj)) (s : Shared) (σ : St) (H : Hp) (E : Value → Shared → Prop), Inv X pins σ H s → (∀ b ∈ fp, FpOk X pins H b) → tn i s.heap → J.go i H →
    wpAny (model P w) X.A (pyNext (.ref it)) (fun r s1 => ∃ u, r = some u ∧
      wpAny (model P w) X.A (letOwnedTupleGo tg (.ref it) u) (fun _ s2 => ∃ x H', Inv X pins σ H' s2 ∧ RelV x u ∧ J.yld i H x H' ∧ tn (i + 1) s2.heap ∧ ∀ b ∈ fp, H' b = none) E s1) E s
  done : ∀ (X : Cx), X.prog = P → X.w = w → X.K = K → X.calm = true → ∀ (i : Nat) (pins : List (Addr × Obj)) (s : Shared) (σ : St) (H : Hp) (E : Value → Shared → Prop), Inv X pins σ H s → (∀ b ∈ fp, FpOk X pins H b) → tn i s.heap → J.stop i H →
    wpAny (model P w) X.A (pyNext (.ref it)) (fun r s1 => r = none ∧ Inv X pins σ H s1) E s
  self : ∀ (A : Around) (i : Nat) (s : Shared) (Q : Value → Shared → Prop) (E : Value → Shared → Prop), tn i s.heap → Q (.ref it) s → wpAny (model P w) A (pyIter (.ref it)) Q E s
abbrev TI := St → Hp → (It → Hp → Prop) → Prop
/-- an iterator has come -/
def PIE (X : Cx) (pins : List (Addr × Obj)) (σ : St) (tg : Expr) (R : It → Hp → Prop) (itv : Value) (s2 : Shared) : Prop :=
  ∃ (it : Addr) (fp : List Addr) (tn : Nat → Heap → Prop) (J : It) (H' : Hp), itv = .ref it ∧ Inv X pins σ H' s2 ∧ Turn X.prog X.w X.K tg J fp it tn ∧ tn 0 s2.heap ∧ (∀ b ∈ fp, FpOk X pins H' b) ∧ R J H'
def PI (X : Cx) (tg iter : Expr) (wi : TI) : Prop :=
  ∀ (pins : List (Addr × Obj)) (s : Shared) (σ : St) (H : Hp) (R : It → Hp → Prop), Inv X pins σ H s → wi σ H R →
    wpAny (model X.prog X.w) X.A (eval iter X.env) (fun v s1 => wpAny (model X.prog X.w) X.A (pyIter v) (PIE X pins σ tg R) X.xe s1) X.xe s

/-- the step ahead of the store is nothing for an iterator that keeps no tuple -/
theorem go_of {M : Model} {A : Around} {E : Value → Shared → Prop} {s : Shared} {tg : Expr} {it : Addr} {u : Value} {o : Obj} {n : String} {vs : Array Value} {Q : Unit → Shared → Prop} (ho : s.heap.get? it = some o) (hc : o.cls = .type n) (hd : o.data = .fields vs)
    (hn : ["enumerate", "zip", "dict_itemiterator", "dict_reverseitemiterator", "odict_iterator", "itertools.zip_longest", "itertools.pairwise"].contains n = false) (hQ : Q () s) : wpAny M A (letOwnedTupleGo tg (.ref it) u) Q E s := by
  unfold letOwnedTupleGo
  cases tg <;> first
    | exact wpAny_pure hQ
    | (cases u <;> first
        | exact wpAny_pure hQ
        | (refine wpAny_bind (wpAny_load ho ?_)
           rw [hc, hd]
           show wpAny M A (if (["enumerate", "zip", "dict_itemiterator", "dict_reverseitemiterator", "odict_iterator", "itertools.zip_longest", "itertools.pairwise"].contains n && vs[0]? == some (rawInt _)) = true then _ else _) Q E s
           rw [if_neg (by intro h; rw [hn, Bool.false_and] at h; cases h)]
           exact wpAny_pure hQ))

/-- the list at a, as it stands at each turn (a loop may append to it) -/
def Itl (K : PySem.W.Frag) (a : Addr) : It :=
  ⟨fun i H => ∃ xs x, SqL K H a xs ∧ xs[i]? = some x, fun i H x H' => H' = H ∧ ∀ xs, SqL K H a xs → xs[i]? = some x, fun i H => ∃ xs, SqL K H a xs ∧ xs.length ≤ i⟩
/-- lo, lo + 1, .. (n of them) -/
def Itr (lo : Int) (n : Nat) : It := ⟨fun i _ => i < n, fun i H x H' => H' = H ∧ x = .int (lo + i), fun i _ => n ≤ i⟩
theorem turn_list {P : Program} {w : World} {K : PySem.W.Frag} {tg : Expr} (a it : Addr) : Turn P w K tg (Itl K a) [it] it (fun i h => h.IsListIter it a i) where
  mem := by simp
  obj := fun i h st b hb => by
    have e : b = it := by simpa using hb
    subst e
    obtain ⟨o, e, c, d⟩ := st
    exact ⟨o, e, fun v z => by rw [d] at z; cases z⟩
  keep := fun i h h' st k => st.at fun o e => k it (by simp) o e
  item := by
    intro X hP hw hK hc i pins s σ H E I hf st hg
    subst hP hw hK
    obtain ⟨xs, x, hq, hx⟩ := hg
    obtain ⟨its, rv, p, hz⟩ := I.list hq
    obtain ⟨u, hu, ru⟩ := rv.get hx
    obtain ⟨f0, f1, f2, f3, f4, f5⟩ := hf it (by simp)
    refine wpAny_pyNext_list_item st p.isList (x := u) (by simpa using hu) fun h' st' sb => ?_
    have I1 : Inv X pins σ H { s with heap := h' } := I.turned (t' := s.toks) (fun b o hb e => (sb.2 b hb).trans e) f0 f1 f3 f4 f5
    obtain ⟨o, e, c, d⟩ := id st'
    exact ⟨u, rfl, go_of (s := { s with heap := h' }) e c d (by decide) ⟨x, H, I1, ru, ⟨rfl, fun ys hy => by rw [I.list_inj hy hq]; exact hx⟩, st', fun b hb => (hf b hb).1⟩⟩
  done := by
    intro X hP hw hK hc i pins s σ H E I hf st hg
    subst hP hw hK
    obtain ⟨xs, hq, hx⟩ := hg
    obtain ⟨its, rv, p, hz⟩ := I.list hq
    obtain ⟨f0, f1, f2, f3, f4, f5⟩ := hf it (by simp)
    have hl := rv.length
    exact wpAny_pyNext_list_end (I.ok.hd hc) st p.isList (by simp; omega) fun h' eb => ⟨rfl, I.turned (t' := s.toks) (fun b o hb e => eb b o hb e) f0 f1 f3 f4 f5⟩
  self := fun _ _ _ _ _ st h => wpAny_pyIter_listiter st h
theorem turn_range {P : Program} {w : World} {K : PySem.W.Frag} {tg : Expr} (it : Addr) (lo : Int) (n : Nat) : Turn P w K tg (Itr lo n) [it] it (fun i h => IsRangeIter h it (lo + (i : Nat) * 1) ((n : Int) - (i : Nat)) 1) where
  mem := by simp
  obj := fun i h st b hb => by
    have e : b = it := by simpa using hb
    subst e
    exact ⟨_, st, fun v z => by
      have z' : Data.fields _ = Data.cell v := z
      cases z'⟩
  keep := fun i h h' st k => k it (by simp) _ st
  item := by
    intro X hP hw hK hc i pins s σ H E I hf st hg
    subst hP hw hK
    obtain ⟨f0, f1, f2, f3, f4, f5⟩ := hf it (by simp)
    have W := Walks.range (prog := X.prog) (w := X.w) (I.ok.hd hc) it lo 1 n
    refine W.item i s _ _ hg st fun v h' tk hv st' kk => ?_
    obtain ⟨t, rfl⟩ := hv
    have I1 : Inv X pins σ H { s with heap := h', toks := tk } := I.turned (fun b o hb e => kk b o (by simpa using hb) e) f0 f1 f3 f4 f5
    refine ⟨_, rfl, go_of (s := { s with heap := h', toks := tk }) (n := "range_iterator") st' rfl rfl (by decide) ⟨.int (lo + i), H, I1, ⟨t, ?_⟩, ⟨rfl, rfl⟩, st', fun b hb => (hf b hb).1⟩⟩
    rw [Int.mul_one]
  done := by
    intro X hP hw hK hc i pins s σ H E I hf st hg
    subst hP hw hK
    obtain ⟨f0, f1, f2, f3, f4, f5⟩ := hf it (by simp)
    exact wpAny_pyNext_range_end (I.ok.hd hc) st (by have : n ≤ i := hg; omega) fun h' eb => ⟨rfl, I.turned (t' := s.toks) (fun b o hb e => eb b o hb e) f0 f1 f3 f4 f5⟩
  self := fun _ _ _ _ _ st h => wpAny_pyIter_rangeiter st h
end L2

namespace L2
open PySem PySem.Spec PyProof.Rows
section
variable {X : Cx} {tg : Expr}
def iList (K : PySem.W.Frag) (tl : TE) : TI := fun σ H R => tl σ H fun x H1 => ∃ a, x = .ref a ∧ (∃ xs, SqL K H1 a xs) ∧ R (Itl K a) H1
theorem pi_list {l : Expr} {tl : TE} (hl : PE X l tl) : PI X tg l (iList X.K tl) := by
  intro pins s σ H R I h
  refine thn (hl pins s σ H _ I h) fun v s1 ⟨x, H1, I1, r1, q1⟩ => ?_
  obtain ⟨a, e, ⟨xs, hq⟩, q⟩ := q1
  subst e
  cases r1
  obtain ⟨its, rv, p, hz⟩ := I1.list hq
  refine wpAny_pyIter_list p.isList ?_
  refine ⟨s1.heap.objs.size, [s1.heap.objs.size], _, _, H1, rfl, I1.kept (t' := s1.toks) fun b o e => Heap.get?_push_of_some _ e, turn_list a _, ⟨_, Heap.get?_push_size _ rfl, rfl, rfl⟩, fun b hb => ?_, q⟩
  have e : b = s1.heap.objs.size := by simpa using hb
  subst e
  exact I1.fpOk (Nat.le_refl _) (I1.hok.fresh (Nat.le_refl _))
/-- a range object just made, walked -/
theorem range_it {pins : List (Addr × Obj)} {σ : St} {H : Hp} {s : Shared} {R : It → Hp → Prop} {E : Value → Shared → Prop} {lo hi : Int} {t u v : Tok} {tk : Nat} (I : Inv X pins σ H s) (h1 : -(2 ^ 62) ≤ lo) (h2 : lo < 2 ^ 62) (h3 : -(2 ^ 62) ≤ hi) (h4 : hi < 2 ^ 62)
    (q : R (Itr lo (hi - lo).toNat) H) : wpAny (model X.prog X.w) X.A (pyIter (.ref s.heap.objs.size)) (PIE X pins σ tg R) E { s with heap := s.heap.push { cls := .type "range", data := .fields #[.int lo t, .int hi u, .int 1 v] }, toks := tk } := by
  refine wpAny_pyIter_range (IsRange.new ..) (small_one h1 h2 h3 h4) ?_
  have I1 : Inv X pins σ H { s with heap := s.heap.push { cls := .type "range", data := .fields #[.int lo t, .int hi u, .int 1 v] }, toks := tk } := I.kept fun b o e => Heap.get?_push_of_some _ e
  refine ⟨(s.heap.push { cls := .type "range", data := .fields #[.int lo t, .int hi u, .int 1 v] }).objs.size, [(s.heap.push { cls := .type "range", data := .fields #[.int lo t, .int hi u, .int 1 v] }).objs.size], _, _, H, rfl,
    I1.kept (t' := tk) fun b o e => Heap.get?_push_of_some _ e, turn_range _ lo (hi - lo).toNat, ?_, fun b hb => ?_, q⟩
  · have e1 : lo + ((0 : Nat) : Int) * 1 = lo := by simp
    have e2 : (((hi - lo).toNat : Nat) : Int) - ((0 : Nat) : Int) = Builtin.Range.rangeSize lo hi 1 := by rw [rangeSize_one]; split <;> omega
    show IsRangeIter _ _ (lo + ((0 : Nat) : Int) * 1) ((((hi - lo).toNat : Nat) : Int) - ((0 : Nat) : Int)) 1
    rw [e1, e2]
    exact Heap.get?_push_size _ rfl
  · have e : b = (s.heap.push { cls := .type "range", data := .fields #[.int lo t, .int hi u, .int 1 v] }).objs.size := by simpa using hb
    subst e
    exact I1.fpOk (Nat.le_refl _) (I1.hok.fresh (Nat.le_refl _))
def iRng1 (ta : TA) : TI := fun σ H R => ta σ H fun vs H1 => ∃ j : Int, vs = [.int j] ∧ -(2 ^ 62) ≤ j ∧ j < 2 ^ 62 ∧ R (Itr 0 j.toNat) H1
def iRng2 (ta : TA) : TI := fun σ H R => ta σ H fun vs H1 => ∃ i j : Int, vs = [.int i, .int j] ∧ (-(2 ^ 62) ≤ i ∧ i < 2 ^ 62 ∧ -(2 ^ 62) ≤ j ∧ j < 2 ^ 62) ∧ R (Itr i (j - i).toNat) H1
theorem pi_range1 {a : Expr} {ta : TA} {p pos : Pos} (hg : Gl X "range") (hm : X.mg "range" = none) (ha : PA X [a] ta) (hs : starEach [a] X.env = [(false, eval a X.env)] := by rfl) : PI X tg (.Call (.Name "range" p) [a] [] pos) (iRng1 ta) := by
  intro pins s σ H R I h
  refine Call_ (ld_blt I hg hm boot_range (PyProof.Rows.callWith_type1 (thn (ha pos pins s σ H _ I h) fun us s1 ⟨vs, H1, I1, r1, q1⟩ => ?_) hs rfl))
  obtain ⟨j, e, q1, q2, q⟩ := q1
  subst e
  cases r1 with
  | cons r rr =>
    cases rr
    obtain ⟨t, rfl⟩ := r
    exact call_range_1 (range_it I1 (by omega) (by omega) q1 q2 (by simpa using q))
theorem pi_range2 {a b : Expr} {ta : TA} {p pos : Pos} (hg : Gl X "range") (hm : X.mg "range" = none) (ha : PA X [a, b] ta) (hs : starEach [a, b] X.env = [(false, eval a X.env), (false, eval b X.env)] := by rfl) (hs2 : starEach [b] X.env = [(false, eval b X.env)] := by rfl) :
    PI X tg (.Call (.Name "range" p) [a, b] [] pos) (iRng2 ta) := by
  intro pins s σ H R I h
  refine Call_ (ld_blt I hg hm boot_range (PyProof.Rows.callWith_type1 (thn (ha pos pins s σ H _ I h) fun us s1 ⟨vs, H1, I1, r1, q1⟩ => ?_) (by rw [hs, hs2]) (by rw [hs2]; rfl)))
  obtain ⟨i, j, e, ⟨q1, q2, q3, q4⟩, q⟩ := q1
  subst e
  cases r1 with
  | cons r rr =>
    cases rr with
    | cons r' rr =>
      cases rr
      obtain ⟨t, rfl⟩ := r
      obtain ⟨t', rfl⟩ := r'
      exact call_range_2 (range_it I1 q1 q2 q3 q4 q)

/-! ### for -/
/-- W: the invariant by the turn and a measure; N: what the body is to reach -/
def tFor (wi : TI) (g : TG) (tb : TS) : TS := fun D σ H => wi σ H fun J H1 => ∃ W : Nat → Nat → St → Hp → Prop, (∃ m, W 0 m σ H1) ∧ ∀ i m σ H, W i m σ H →
  (J.stop i H ∧ D.nx σ H) ∨ (J.go i H ∧ ∃ N : St → Hp → Prop, (∀ σ' H', N σ' H' → ∃ m', m' < m ∧ W (i + 1) m' σ' H') ∧ ∀ x H', J.yld i H x H' → g x σ H' fun σ2 H2 => tb { D with nx := N, ct := N, bk := D.nx } σ2 H2)
/-- the records at fp as they stand -/
def pinsAt (fp : List Addr) (h : Heap) : List (Addr × Obj) := fp.filterMap fun b => (h.get? b).map fun o => (b, o)
theorem mem_pinsAt {fp : List Addr} {h : Heap} {b : Addr} {o : Obj} (hb : b ∈ fp) (e : h.get? b = some o) : (b, o) ∈ pinsAt fp h := List.mem_filterMap.mpr ⟨b, hb, by rw [e]; rfl⟩
theorem of_pinsAt {fp : List Addr} {h : Heap} {p : Addr × Obj} (hp : p ∈ pinsAt fp h) : p.1 ∈ fp ∧ h.get? p.1 = some p.2 := by
  obtain ⟨b, hb, e⟩ := List.mem_filterMap.mp hp
  cases q : h.get? b with
  | none => rw [q] at e; cases e
  | some o =>
    rw [q] at e
    have e' : (b, o) = p := Option.some.inj e
    subst e'
    exact ⟨hb, q⟩
theorem Inv.pinned {pins : List (Addr × Obj)} {σ : St} {H : Hp} {s : Shared} {fp : List Addr} (I : Inv X pins σ H s) (hf : ∀ b ∈ fp, FpOk X pins H b) (ho : ∀ b ∈ fp, ∃ o, s.heap.get? b = some o ∧ ∀ v, o.data ≠ .cell v) : Inv X (pins ++ pinsAt fp s.heap) σ H s :=
  I.pins_of fun p hp => (List.mem_append.mp hp).elim (fun z => I.pin p (List.mem_append_right _ z)) fun z => by
    obtain ⟨hb, e⟩ := of_pinsAt z
    obtain ⟨f0, f1, f2, _⟩ := hf p.1 hb
    obtain ⟨o, e', d⟩ := ho p.1 hb
    rw [e] at e'; cases e'
    exact ⟨e, f0, f1, f2, d⟩
theorem Inv.unpinned {pins pl : List (Addr × Obj)} {σ : St} {H : Hp} {s : Shared} (I : Inv X (pins ++ pl) σ H s) : Inv X pins σ H s := I.pins_of fun p hp => I.pin p (List.mem_append_right _ (List.mem_append_left _ hp))
theorem ps_for {iter : Expr} {body : List Stmt} {wi : TI} {g : TG} {tb : TS} {pos : Pos} (hp : PassesOwn (model X.prog X.w) X.A X.env X.xe) (hc : X.calm = true) (hi : PI X tg iter wi) (hg : PG X tg g) (hb : PSs X body tb)
    (hs : ∀ x, foldedSetIterable iter X.env x = pure x := by intro _; rfl) : PS X (.For tg iter body [] pos) (tFor wi g tb) := by
  intro pins s σ H D I h
  refine wpAny_For (thn (hi pins s σ H _ I h) fun v s1 h1 => thn h1 fun itv s2 h2 => ?_) hs
  obtain ⟨it, fp, tn, J, H2, e, I2, T, st2, f2, W, ⟨m0, w0⟩, turn⟩ := h2
  subst e
  -- what stays true of the iterator's objects through the loop
  have stat : ∀ {H' : Hp}, (∀ b ∈ fp, H' b = none) → ∀ b ∈ fp, FpOk X pins H' b := fun hn b hb => ⟨hn b hb, (f2 b hb).2⟩
  refine codeAny_forLoop_any (fun n s' => ∃ i σ' H', Inv X pins σ' H' s' ∧ tn i s'.heap ∧ (∀ b ∈ fp, H' b = none) ∧ W i n σ' H') ?_ m0 ⟨0, σ, H2, I2, st2, fun b hb => (f2 b hb).1, w0⟩
  rintro n s3 ⟨i, σ3, H3, I3, st3, fr3, w3⟩
  rcases turn i n σ3 H3 w3 with ⟨stop, qn⟩ | ⟨go, N, hN, step⟩
  · refine wpAny_passesOwn hp (thn (T.done X rfl rfl rfl hc i pins s3 σ3 H3 X.xe I3 (stat fr3) st3 stop) fun r s4 ⟨hr, I4⟩ => ?_)
    subst hr
    exact wpAny_execs_nil ⟨σ3, H3, I4, qn⟩
  · refine wpAny_passesOwn hp (thn (T.item X rfl rfl rfl hc i pins s3 σ3 H3 X.xe I3 (stat fr3) st3 go) fun r s4 ⟨u, hr, h4⟩ => ?_)
    subst hr
    refine wpAny_passesOwn hp (thn h4 fun _ s5 ⟨x, H5, I5, r5, y5, st5, fr5⟩ => ?_)
    have I5' := I5.pinned (stat fr5) (T.obj _ _ st5)
    refine wpAny_passesOwn hp (thn (hg _ s5 σ3 H5 x u _ I5' r5 (step x H5 y5)) fun _ s6 ⟨σ6, H6, I6, q6⟩ => ?_)
    refine wpAny_passesOwn hp (thn (hb _ s6 σ6 H6 _ I6 q6) fun f s7 q7 => ?_)
    have again : ∀ {σ7 : St} {H7 : Hp}, Inv X (pins ++ pinsAt fp s5.heap) σ7 H7 s7 → N σ7 H7 → ∃ m, m < n ∧ ∃ i σ' H', Inv X pins σ' H' s7 ∧ tn i s7.heap ∧ (∀ b ∈ fp, H' b = none) ∧ W i m σ' H' := fun {σ7 H7} I7 n7 => by
      obtain ⟨m', hm, w7⟩ := hN σ7 H7 n7
      refine ⟨m', hm, i + 1, σ7, H7, I7.unpinned, T.keep _ _ _ st5 fun b hb o e => (I7.pin (b, o) (List.mem_append_right _ (List.mem_append_right _ (mem_pinsAt hb e)))).1, fun b hb => ?_, w7⟩
      obtain ⟨o, e, d⟩ := T.obj _ _ st5 b hb
      exact (I7.pin (b, o) (List.mem_append_right _ (List.mem_append_right _ (mem_pinsAt hb e)))).2.1
    cases f with
    | next => obtain ⟨σ7, H7, I7, n7⟩ := q7; exact again I7 n7
    | cont => obtain ⟨σ7, H7, I7, n7⟩ := q7; exact again I7 n7
    | brk => obtain ⟨σ7, H7, I7, q7⟩ := q7; exact ⟨σ7, H7, I7.unpinned, q7⟩
    | ret v => obtain ⟨x7, σ7, H7, I7, r7, q7⟩ := q7; exact ⟨x7, σ7, H7, I7.unpinned, r7, q7⟩
end

/-! ### the forms one uses -/
/-- over a list that the body leaves as it is -/
theorem for_list {K : PySem.W.Frag} {a : Addr} {xs : List V} {g : TG} {tb : TS} {D : Ends} {σ : St} {H : Hp} (Pv : Nat → St → Hp → Prop) (h0 : Pv 0 σ H) (hl : ∀ i σ H, i ≤ xs.length → Pv i σ H → SqL K H a xs)
    (hs : ∀ i x σ H, xs[i]? = some x → Pv i σ H → g x σ H fun σ2 H2 => tb { D with nx := Pv (i + 1), ct := Pv (i + 1), bk := D.nx } σ2 H2) (hd : ∀ σ H, Pv xs.length σ H → D.nx σ H) :
    ∃ W : Nat → Nat → St → Hp → Prop, (∃ m, W 0 m σ H) ∧ ∀ i m σ H, W i m σ H →
      ((Itl K a).stop i H ∧ D.nx σ H) ∨ ((Itl K a).go i H ∧ ∃ N : St → Hp → Prop, (∀ σ' H', N σ' H' → ∃ m', m' < m ∧ W (i + 1) m' σ' H') ∧ ∀ x H', (Itl K a).yld i H x H' → g x σ H' fun σ2 H2 => tb { D with nx := N, ct := N, bk := D.nx } σ2 H2) := by
  refine ⟨fun i m σ H => m = xs.length - i ∧ i ≤ xs.length ∧ Pv i σ H, ⟨xs.length, by simp, Nat.zero_le _, h0⟩, ?_⟩
  rintro i m σ H ⟨rfl, hi, p⟩
  have q := hl i σ H hi p
  by_cases hlt : i < xs.length
  · refine .inr ⟨⟨xs, xs[i], q, by simp [hlt]⟩, Pv (i + 1), fun σ' H' p' => ⟨xs.length - (i + 1), by omega, rfl, hlt, p'⟩, fun x H' y => ?_⟩
    obtain ⟨e, y⟩ := y
    subst e
    exact hs i x σ _ (y xs q) p
  · have e : i = xs.length := by omega
    subst e
    exact .inl ⟨⟨xs, q, Nat.le_refl _⟩, hd σ H p⟩
end L2

namespace L2
open PySem PySem.Spec PyProof.Rows

abbrev R2 := V → V → Hp → VK → Prop
/-- a two-place operation on values: f is binaryOp op, inplaceOp op or compareOp op -/
def OpR (X : Cx) (f : Value → Value → Sem Value) (r : R2) : Prop :=
  ∀ (pins : List (Addr × Obj)) (s : Shared) (σ : St) (H : Hp) (x y : V) (v u : Value) (Q : VK), Inv X pins σ H s → RelV x v → RelV y u → r x y H Q →
    wpAny (model X.prog X.w) X.A (f v u) (EP X pins σ Q) X.xe s
/-- a one-place operation -/
def UnR (X : Cx) (f : Value → Sem Value) (r : V → Hp → VK → Prop) : Prop :=
  ∀ (pins : List (Addr × Obj)) (s : Shared) (σ : St) (H : Hp) (x : V) (v : Value) (Q : VK), Inv X pins σ H s → RelV x v → r x H Q →
    wpAny (model X.prog X.w) X.A (f v) (EP X pins σ Q) X.xe s
/-- a call of a value that is known (a builtin, a type) with values -/
def CallR (X : Cx) (f : Value) (r : List V → Hp → VK → Prop) : Prop :=
  ∀ (pins : List (Addr × Obj)) (s : Shared) (σ : St) (H : Hp) (xs : List V) (us : List Value) (Q : VK), Inv X pins σ H s → Vals xs us → r xs H Q →
    wpAny (model X.prog X.w) X.A (call f us) (EP X pins σ Q) X.xe s
def tOp (r : R2) (ta tb : TE) : TE := fun σ H Q => ta σ H fun x H1 => tb σ H1 fun y H2 => r x y H2 Q
def tUn (r : V → Hp → VK → Prop) (ta : TE) : TE := fun σ H Q => ta σ H fun x H1 => r x H1 Q
/-- ints in, under C, and a value out -/
def rI (C : Int → Int → Prop) (g : Int → Int → V) : R2 := fun x y H Q => ∃ i j, x = .int i ∧ y = .int j ∧ C i j ∧ Q (g i j) H
def rI0 (g : Int → Int → V) : R2 := fun x y H Q => ∃ i j, x = .int i ∧ y = .int j ∧ Q (g i j) H
def rU (g : Int → V) : V → Hp → VK → Prop := fun x H Q => ∃ i, x = .int i ∧ Q (g i) H

section
variable {X : Cx} {a b c : Expr} {ta tb tc : TE} {pos : Pos}

theorem binT (ha : PE X a ta) (hb : PE X b tb) {pins : List (Addr × Obj)} {s : Shared} {σ : St} {H : Hp} {R : V → V → Hp → Prop} (I : Inv X pins σ H s)
    (h : ta σ H fun x H1 => tb σ H1 fun y H2 => R x y H2) {Q : Value → Shared → Prop} {f : Value → Value → Sem Value}
    (hf : ∀ v u s2 x y H2, Inv X pins σ H2 s2 → RelV x v → RelV y u → R x y H2 → wpAny (model X.prog X.w) X.A (f v u) Q X.xe s2) :
    wpAny (model X.prog X.w) X.A (eval a X.env) (fun v s₁ => wpAny (model X.prog X.w) X.A (eval b X.env) (fun u s₂ => wpAny (model X.prog X.w) X.A (f v u) Q X.xe s₂) X.xe s₁) X.xe s := by
  refine thn (ha pins s σ H _ I h) fun v s1 ⟨x, H1, I1, r1, q1⟩ => ?_
  refine thn (hb pins s1 σ H1 _ I1 q1) fun u s2 ⟨y, H2, I2, r2, q2⟩ => ?_
  exact hf v u s2 x y H2 I2 r1 r2 q2

theorem pe_op {op : Operator} {r : R2} (ho : OpR X (binaryOp op) r) (ha : PE X a ta) (hb : PE X b tb) : PE X (.BinOp a op b pos) (tOp r ta tb) := by
  intro pins s σ H Q I h
  exact wpAny_BinOp (binT ha hb I h fun v u s2 x y H2 I2 rx ry q => ho pins s2 σ H2 x y v u Q I2 rx ry q)
theorem pe_un {op : UnaryOp} {r : V → Hp → VK → Prop} (ho : UnR X (unaryOp op) r) (ha : PE X a ta) : PE X (.UnaryOp op a pos) (tUn r ta) := by
  intro pins s σ H Q I h
  exact UnaryOp_ (thn (ha pins s σ H _ I h) fun v s1 ⟨x, H1, I1, r1, q1⟩ => ho pins s1 σ H1 x v Q I1 r1 q1)
/-! ### ints -/
theorem opI {f : Value → Value → Sem Value} {C : Int → Int → Prop} {g : Int → Int → Int}
    (rule : ∀ (i j : Int) (t u : Tok) (s : Shared) (Q : Value → Shared → Prop) (E : Value → Shared → Prop), C i j → Q (.int (g i j) s.toks) { s with toks := s.toks + 1 } → wpAny (model X.prog X.w) X.A (f (.int i t) (.int j u)) Q E s) :
    OpR X f (rI C fun i j => .int (g i j)) := by
  intro pins s σ H x y v u Q I rx ry h
  obtain ⟨i, j, rfl, rfl, hc, q⟩ := h
  obtain ⟨t, rfl⟩ := rx
  obtain ⟨t', rfl⟩ := ry
  exact rule i j t t' s _ _ hc ⟨.int (g i j), H, I.tok _, ⟨_, rfl⟩, q⟩
theorem opI0 {f : Value → Value → Sem Value} {g : Int → Int → Int}
    (rule : ∀ (i j : Int) (t u : Tok) (s : Shared) (Q : Value → Shared → Prop) (E : Value → Shared → Prop), Q (.int (g i j) s.toks) { s with toks := s.toks + 1 } → wpAny (model X.prog X.w) X.A (f (.int i t) (.int j u)) Q E s) :
    OpR X f (rI0 fun i j => .int (g i j)) := by
  intro pins s σ H x y v u Q I rx ry h
  obtain ⟨i, j, rfl, rfl, q⟩ := h
  obtain ⟨t, rfl⟩ := rx
  obtain ⟨t', rfl⟩ := ry
  exact rule i j t t' s _ _ ⟨.int (g i j), H, I.tok _, ⟨_, rfl⟩, q⟩
theorem opB0 {f : Value → Value → Sem Value} {g : Int → Int → Bool}
    (rule : ∀ (i j : Int) (t u : Tok) (s : Shared) (Q : Value → Shared → Prop) (E : Value → Shared → Prop), Q (.bool (g i j)) s → wpAny (model X.prog X.w) X.A (f (.int i t) (.int j u)) Q E s) :
    OpR X f (rI0 fun i j => .bl (g i j)) := by
  intro pins s σ H x y v u Q I rx ry h
  obtain ⟨i, j, rfl, rfl, q⟩ := h
  obtain ⟨t, rfl⟩ := rx
  obtain ⟨t', rfl⟩ := ry
  exact rule i j t t' s _ _ ⟨.bl (g i j), H, I, rfl, q⟩

def CDiv (i j : Int) : Prop := 0 < j ∧ j < 1073741824
def CMul (i j : Int) : Prop := (-(2 ^ 64) < i ∧ i < 2 ^ 64) ∨ (-(2 ^ 64) < j ∧ j < 2 ^ 64)
theorem CMul.ok {i j : Int} (h : CMul i j) : IntMulOk i j := by
  rcases h with ⟨h1, h2⟩ | ⟨h1, h2⟩
  · exact .of_left (intBits_le_64 h1 h2)
  · exact .of_right (intBits_le_64 h1 h2)
theorem op_add : OpR X (binaryOp .Add) (rI0 fun i j => .int (i + j)) := opI0 fun _ _ _ _ _ _ _ q => add_int q
theorem op_sub : OpR X (binaryOp .Sub) (rI0 fun i j => .int (i - j)) := opI0 fun _ _ _ _ _ _ _ q => sub_int q
theorem op_mul : OpR X (binaryOp .Mult) (rI CMul fun i j => .int (i * j)) := opI fun _ _ _ _ _ _ _ hc q => mul_int q hc.ok
/-- // by a positive divisor -/
theorem op_fdiv : OpR X (binaryOp .FloorDiv) (rI CDiv fun i j => .int (i / j)) := opI fun i j _ _ _ _ _ hc q => by
  have h1 : (0 : Int) < j := hc.1
  have h2 : j < 1073741824 := hc.2
  exact floordiv_int (by omega) (by rw [Int.fdiv_eq_ediv_of_nonneg i (by omega)]; exact q) (.inl (PyProof.noPylong_small (by omega)))
/-- % by a positive divisor of any size -/
theorem op_mod : OpR X (binaryOp .Mod) (rI (fun _ j => 0 < j) fun i j => .int (i % j)) := opI fun i j _ _ _ _ _ hc q => by
  have h1 : (0 : Int) < j := hc
  exact mod_int' (by omega) (by rw [Int.fmod_eq_emod_of_nonneg i (by omega)]; exact q)
theorem unI {f : Value → Sem Value} {g : Int → Int}
    (rule : ∀ (i : Int) (t : Tok) (s : Shared) (Q : Value → Shared → Prop) (E : Value → Shared → Prop), Q (.int (g i) s.toks) { s with toks := s.toks + 1 } → wpAny (model X.prog X.w) X.A (f (.int i t)) Q E s) :
    UnR X f (rU fun i => .int (g i)) := by
  intro pins s σ H x v Q I rx h
  obtain ⟨i, rfl, q⟩ := h
  obtain ⟨t, rfl⟩ := rx
  exact rule i t s _ _ ⟨.int (g i), H, I.tok _, ⟨_, rfl⟩, q⟩
theorem un_neg : UnR X (unaryOp .USub) (rU fun i => .int (-i)) := unI fun _ _ _ _ _ q => neg_int q
/-! ### bools among ints: n += (a < b) -/
end

/-! ### comparisons -/
/-- the scalars that == tells apart as data does -/
def scal : V → V → Bool
  | .non, .non => true | .non, .int _ => true | .int _, .non => true | .non, .bl _ => true | .bl _, .non => true | .non, .str _ => true | .str _, .non => true
  | .int _, .int _ => true | .bl _, .bl _ => true | .str _, .str _ => true | .byt _, .byt _ => true
  | .int _, .str _ => true | .str _, .int _ => true | .bl _, .str _ => true | .str _, .bl _ => true
  | _, _ => false
def rEq : R2 := fun x y H Q => scal x y = true ∧ Q (.bl (decide (x = y))) H
def rNe : R2 := fun x y H Q => scal x y = true ∧ Q (.bl (!decide (x = y))) H

theorem dec_int {i j : Int} : decide (V.int i = V.int j) = (i == j) := by
  rw [Bool.eq_iff_iff]
  simp
theorem dec_bl {i j : Bool} : decide (V.bl i = V.bl j) = (i == j) := by
  rw [Bool.eq_iff_iff]
  simp
theorem dec_str {i j : Str} : decide (V.str i = V.str j) = (i == j) := by
  rw [Bool.eq_iff_iff]
  simp
theorem dec_byt {i j : Array UInt8} : decide (V.byt i = V.byt j) = (i.toList == j.toList) := by
  rw [Bool.eq_iff_iff]
  cases i
  cases j
  simp

section
variable {X : Cx} {a b c : Expr} {ta tb tc : TE} {pos : Pos}
theorem fin_bl {pins : List (Addr × Obj)} {σ : St} {H : Hp} {s : Shared} {Q : VK} {k k' : Bool} (I : Inv X pins σ H s) (q : Q (.bl k) H) (e : k = k') : EP X pins σ Q (.bool k') s := by
  subst e
  exact ⟨.bl k, H, I, rfl, q⟩
theorem op_eq : OpR X (compareOp .Eq) rEq := by
  intro pins s σ H x y v u Q I rx ry h
  obtain ⟨hs, q⟩ := h
  cases x with
  | non =>
    cases rx
    cases y with
    | non => cases ry; exact PySem.EqNone.eq_none_none (fin_bl I q (by simp))
    | bl j => cases ry; exact PySem.EqNone.eq_none_bool (fin_bl I q (by simp))
    | int j => obtain ⟨t', rfl⟩ := ry; exact PySem.EqNone.eq_none_int (fin_bl I q (by simp))
    | str j => obtain ⟨t', rfl⟩ := ry; exact PySem.EqNone.eq_none_str (fin_bl I q (by simp))
    | _ => exact absurd (show false = true from hs) Bool.false_ne_true
  | bl i =>
    cases rx
    cases y with
    | non => cases ry; exact PySem.EqNone.eq_bool_none (fin_bl I q (by simp))
    | bl j => cases ry; exact eq_bool (fin_bl I q dec_bl)
    | str j => obtain ⟨t', rfl⟩ := ry; exact PySem.EqMixed.eq_bool_str (fin_bl I q (by simp))
    | _ => exact absurd (show false = true from hs) Bool.false_ne_true
  | int i =>
    obtain ⟨t, rfl⟩ := rx
    cases y with
    | non => cases ry; exact PySem.EqNone.eq_int_none (fin_bl I q (by simp))
    | int j => obtain ⟨t', rfl⟩ := ry; exact eq_int (fin_bl I q dec_int)
    | str j => obtain ⟨t', rfl⟩ := ry; exact PySem.EqMixed.eq_int_str (fin_bl I q (by simp))
    | _ => exact absurd (show false = true from hs) Bool.false_ne_true
  | str i =>
    obtain ⟨t, rfl⟩ := rx
    cases y with
    | non => cases ry; exact PySem.EqNone.eq_str_none (fin_bl I q (by simp))
    | bl j => cases ry; exact PySem.EqMixed.eq_str_bool (fin_bl I q (by simp))
    | int j => obtain ⟨t', rfl⟩ := ry; exact PySem.EqMixed.eq_str_int (fin_bl I q (by simp))
    | str j => obtain ⟨t', rfl⟩ := ry; exact eq_str (fin_bl I q dec_str)
    | _ => exact absurd (show false = true from hs) Bool.false_ne_true
  | byt i =>
    obtain ⟨t, rfl⟩ := rx
    cases y with
    | byt j => obtain ⟨t', rfl⟩ := ry; exact PySem.W.eq_bytes (fin_bl I q dec_byt)
    | _ => exact absurd (show false = true from hs) Bool.false_ne_true
  | _ => cases y <;> exact absurd (show false = true from hs) Bool.false_ne_true
theorem op_ne : OpR X (compareOp .NotEq) rNe := by
  intro pins s σ H x y v u Q I rx ry h
  obtain ⟨hs, q⟩ := h
  cases x with
  | non =>
    cases rx
    cases y with
    | non => cases ry; exact PySem.EqNone.ne_none_none (fin_bl I q (by simp))
    | bl j => cases ry; exact PySem.EqNone.ne_none_bool (fin_bl I q (by simp))
    | int j => obtain ⟨t', rfl⟩ := ry; exact PySem.EqNone.ne_none_int (fin_bl I q (by simp))
    | str j => obtain ⟨t', rfl⟩ := ry; exact PySem.EqNone.ne_none_str (fin_bl I q (by simp))
    | _ => exact absurd (show false = true from hs) Bool.false_ne_true
  | bl i =>
    cases rx
    cases y with
    | non => cases ry; exact PySem.EqNone.ne_bool_none (fin_bl I q (by simp))
    | bl j => cases ry; exact ne_bool (fin_bl I q (congrArg not dec_bl))
    | str j => obtain ⟨t', rfl⟩ := ry; exact PySem.EqMixed.ne_bool_str (fin_bl I q (by simp))
    | _ => exact absurd (show false = true from hs) Bool.false_ne_true
  | int i =>
    obtain ⟨t, rfl⟩ := rx
    cases y with
    | non => cases ry; exact PySem.EqNone.ne_int_none (fin_bl I q (by simp))
    | int j => obtain ⟨t', rfl⟩ := ry; exact ne_int (fin_bl I q (congrArg not dec_int))
    | str j => obtain ⟨t', rfl⟩ := ry; exact PySem.EqMixed.ne_int_str (fin_bl I q (by simp))
    | _ => exact absurd (show false = true from hs) Bool.false_ne_true
  | str i =>
    obtain ⟨t, rfl⟩ := rx
    cases y with
    | non => cases ry; exact PySem.EqNone.ne_str_none (fin_bl I q (by simp))
    | bl j => cases ry; exact PySem.EqMixed.ne_str_bool (fin_bl I q (by simp))
    | int j => obtain ⟨t', rfl⟩ := ry; exact PySem.EqMixed.ne_str_int (fin_bl I q (by simp))
    | str j => obtain ⟨t', rfl⟩ := ry; exact ne_str (fin_bl I q (congrArg not dec_str))
    | _ => exact absurd (show false = true from hs) Bool.false_ne_true
  | byt i =>
    obtain ⟨t, rfl⟩ := rx
    cases y with
    | byt j => obtain ⟨t', rfl⟩ := ry; exact PySem.W.ne_bytes (fin_bl I q (congrArg not dec_byt))
    | _ => exact absurd (show false = true from hs) Bool.false_ne_true
  | _ => cases y <;> exact absurd (show false = true from hs) Bool.false_ne_true

theorem op_lt : OpR X (compareOp .Lt) (rI0 fun i j => .bl (decide (i < j))) := opB0 fun _ _ _ _ _ _ _ q => lt_int q
theorem op_le : OpR X (compareOp .LtE) (rI0 fun i j => .bl (decide (i ≤ j))) := opB0 fun _ _ _ _ _ _ _ q => le_int q
theorem op_gt : OpR X (compareOp .Gt) (rI0 fun i j => .bl (decide (j < i))) := opB0 fun _ _ _ _ _ _ _ q => gt_int q
theorem op_ge : OpR X (compareOp .GtE) (rI0 fun i j => .bl (decide (j ≤ i))) := opB0 fun _ _ _ _ _ _ _ q => ge_int q
theorem nomark (b : Expr) {op : CmpOp} (h : op ≠ .In := by decide) (h2 : op ≠ .NotIn := by decide) : behindInMarks op b = false := by
  have e1 : (op == CmpOp.In) = false := by cases op <;> first | rfl | exact absurd rfl h
  have e2 : (op == CmpOp.NotIn) = false := by cases op <;> first | rfl | exact absurd rfl h2
  cases b <;> simp [behindInMarks, e1, e2]
/-- a comparison as a value; hm: nomark b, or (for in, not in) by with_unfolding_all rfl -/
theorem pe_cmpR {op : CmpOp} {r : R2} (ho : OpR X (compareOp op) r) (ha : PE X a ta) (hb : PE X b tb) (hm : behindInMarks op b = false) : PE X (.Compare a [op] [b] pos) (tOp r ta tb) := by
  intro pins s σ H Q I h
  exact wpAny_Compare1 (binT ha hb I h fun v u s2 x y H2 I2 rx ry q => ho pins s2 σ H2 x y v u Q I2 rx ry q) hm
/-- a reading of a value as a test -/
def tTest (t : TE) : TT := fun σ H Q => t σ H fun x H' => ∃ k, x = .bl k ∧ Q k H'
theorem pt_cmpR {op : CmpOp} {r : R2} (ho : OpR X (compareOp op) r) (ha : PE X a ta) (hb : PE X b tb) (hm : behindInMarks op b = false) : PT X (.Compare a [op] [b] pos) (tTest (tOp r ta tb)) := by
  intro pins s σ H Q I h
  refine wpAny_isTrue_Compare1 (thn (ha pins s σ H _ I h) fun v s1 ⟨x, H1, I1, r1, q1⟩ => thn (hb pins s1 σ H1 _ I1 q1) fun u s2 ⟨y, H2, I2, r2, q2⟩ =>
    thn (ho pins s2 σ H2 x y v u _ I2 r1 r2 q2) fun c s3 ⟨z, H3, I3, r3, k, e, q3⟩ => ?_) hm
  subst e
  cases r3
  exact wpAny_truthy_bool ⟨H3, I3, q3⟩
/-- a op1 b op2 c -/
def tChain (r r' : R2) (ta tb tc : TE) : TE := fun σ H Q => ta σ H fun x H1 => tb σ H1 fun y H2 => r x y H2 fun z H3 => ∃ k, z = .bl k ∧
  (if k = true then tc σ H3 fun w' H4 => r' y w' H4 Q else Q (.bl false) H3)
theorem pe_chain {op op' : CmpOp} {r r' : R2} (ho : OpR X (compareOp op) r) (ho' : OpR X (compareOp op') r') (ha : PE X a ta) (hb : PE X b tb) (hc : PE X c tc)
    (hm : lastMarks [op, op'] [b, c] = false := by with_unfolding_all rfl) : PE X (.Compare a [op, op'] [b, c] pos) (tChain r r' ta tb tc) := by
  intro pins s σ H Q I h
  refine Compare_chain (thn (ha pins s σ H _ I h) fun v s1 ⟨x, H1, I1, r1, q1⟩ => chain_link (thn (hb pins s1 σ H1 _ I1 q1) fun u s2 ⟨y, H2, I2, r2, q2⟩ =>
    thn (ho pins s2 σ H2 x y v u _ I2 r1 r2 q2) fun d s3 ⟨z, H3, I3, r3, k, e, q3⟩ => ?_)) hm
  subst e
  cases r3
  refine wpAny_truthy_bool ?_
  cases k with
  | false => exact ite_ff ⟨.bl false, H3, I3, rfl, q3⟩
  | true => exact ite_tt (chain_last (thn (hc pins s3 σ H3 _ I3 q3) fun w' s4 ⟨z', H4, I4, r4, q4⟩ => ho' pins s4 σ H4 y z' u w' Q I4 r2 r4 q4))
theorem pt_chain {op op' : CmpOp} {r r' : R2} (ho : OpR X (compareOp op) r) (ho' : OpR X (compareOp op') r') (ha : PE X a ta) (hb : PE X b tb) (hc : PE X c tc)
    (hm : lastMarks [op, op'] [b, c] = false := by with_unfolding_all rfl) : PT X (.Compare a [op, op'] [b, c] pos) (tTest (tChain r r' ta tb tc)) := by
  intro pins s σ H Q I h
  refine isTrue_chain (thn (ha pins s σ H _ I h) fun v s1 ⟨x, H1, I1, r1, q1⟩ => test_link (thn (hb pins s1 σ H1 _ I1 q1) fun u s2 ⟨y, H2, I2, r2, q2⟩ =>
    thn (ho pins s2 σ H2 x y v u _ I2 r1 r2 q2) fun d s3 ⟨z, H3, I3, r3, k, e, q3⟩ => ?_)) hm
  subst e
  cases r3
  refine wpAny_truthy_bool ?_
  cases k with
  | false =>
    obtain ⟨k', e', q'⟩ := q3
    cases e'
    exact ite_ff ⟨H3, I3, q'⟩
  | true =>
    refine ite_tt (test_last (thn (hc pins s3 σ H3 _ I3 q3) fun w' s4 ⟨z', H4, I4, r4, q4⟩ => thn (ho' pins s4 σ H4 y z' u w' _ I4 r2 r4 q4) fun d' s5 ⟨z2, H5, I5, r5, k2, e2, q5⟩ => ?_))
    subst e2
    cases r5
    exact wpAny_truthy_bool ⟨H5, I5, q5⟩

/-! ### truth -/
theorem line63 : (sizeLine : Nat) < 2 ^ 63 := by rw [sizeLine_eq]; decide
/-! ### strs and bytes -/
/-! ### scalar builtins, by CallR -/
theorem vals1 {x : V} {us : List Value} (r : Vals [x] us) : ∃ u, us = [u] ∧ RelV x u := by
  cases r with
  | cons r1 r2 => cases r2; exact ⟨_, rfl, r1⟩
end
end L2

namespace L2
open PySem PySem.Spec PyProof.Rows

/-! ### an instance, its attributes a map -/
structure ObjM (h : Heap) (x dx C : Addr) (mA : Str → Option Value) : Prop where
  obj : h.get? x = some (PySem.W.instObj C dx)
  ns : h.Ns1 dx mA
  ne : dx ≠ x

theorem lookIn_ns {h : Heap} {dx : Addr} {mA : Str → Option Value} (n : h.Ns1 dx mA) : ∃ od, h.get? dx = some od ∧ ∀ name, PySem.W.lookIn name od = some (mA name) := by
  obtain ⟨o, es, ep, ho, hd, hk, _, hm⟩ := n
  refine ⟨o, ho, fun name => ?_⟩
  have e := hm name
  unfold nsFind findBy at e
  rw [← Array.find?_toList] at e
  unfold PySem.W.lookIn
  rw [hd]
  dsimp only
  split
  · rename_i y q
    rw [q] at e
    exact congrArg some e
  · rename_i q
    rw [q] at e
    have a : es.toList.any (·.refKey) = false := by
      rw [List.any_eq_false]
      intro y hy
      obtain ⟨z, t, hkey⟩ := hk y (Array.mem_toList_iff.mp hy)
      simp [DictEntry.refKey, hkey]
    have a' : ¬ es.toList.any (·.refKey) = true := by rw [a]; exact Bool.false_ne_true
    rw [if_neg a']
    exact congrArg some e

theorem ObjM.look {h : Heap} {x dx C : Addr} {mA : Str → Option Value} (I : ObjM h x dx C mA) : ∃ od, PySem.W.InstAt h x (PySem.W.instObj C dx) C (some od) ∧ ∀ name, PySem.W.lookIn name od = some (mA name) :=
  let ⟨od, ho, hl⟩ := lookIn_ns I.ns
  ⟨od, ⟨I.obj, rfl, rfl, ho⟩, hl⟩

section
variable {prog : Program} {w : World} {A : Around} {E : Value → Shared → Prop} {s : Shared} {K : PySem.W.Frag} {x dx C f : Addr} {mA : Str → Option Value} {name : Str} {v : Value}

theorem get_map {expr : Bool} {Q : Value → Shared → Prop} (X : K.In s.heap) (I : ObjM s.heap x dx C mA) (hg : PySem.W.plainGet K C name = true) (hh : PySem.W.hasDictIn K C = true)
    (ha : PySem.W.findIn K (.ref C) name = some none) (hv : mA name = some v) (hv' : PySem.W.handedIn v = true) (h : Q v { s with toks := s.toks + 1 }) :
    wpAny (model prog w) A (getAttr (.ref x) name expr) Q E s := by
  obtain ⟨od, J, hl⟩ := I.look
  exact PySem.W.get_value X J (PySem.W.plainGet_of hg).1 (PySem.W.findObj_own hh ha rfl (by rw [hl, hv])) hv' h

theorem get_meth {pl : Sem Bool} {Q : Value × List Value → Shared → Prop} (X : K.In s.heap) (I : ObjM s.heap x dx C mA) (hg : PySem.W.plainGet K C name = true)
    (hf : PySem.W.findIn K (.ref C) name = some (some (.ref f))) (ht : PySem.W.isFn K (.ref f) = true) (hv : mA name = none) (h : Q (.ref f, [.ref x]) s) :
    wpAny (model prog w) A (getMethod (.ref x) name pl) Q E s := by
  obtain ⟨od, J, hl⟩ := I.look
  exact PySem.W.method_fn X J (PySem.W.plainGet_of hg).1 (PySem.W.plainGet_of hg).2 hf (beq_iff_eq.mp ht) (by show (PySem.W.lookIn name od).map (·.isSome) = some false; rw [hl, hv]; rfl) h

theorem set_map {ns : List Str} {Q : Unit → Shared → Prop} (X : K.In s.heap) (I : ObjM s.heap x dx C mA)
    (hs : PySem.W.findIn K (.ref C) "__setattr__" = some (some (.builtin "object.__setattr__"))) (hp : PySem.W.plainOver K C = true) (ht : PySem.W.takerIn K C name = some none) (hh : PySem.W.hasDictIn K C = true)
    (hw : PySem.Within mA ns) (hsz : ns.length ≤ sizeLine)
    (h : ∀ h', ObjM h' x dx C (fun y => if y = name then some v else mA y) → Heap.SameBut dx s.heap h' → Q () { s with heap := h', toks := s.toks + 2 }) :
    wpAny (model prog w) A (setAttr (.ref x) name v) Q E s := by
  obtain ⟨od, J, hl⟩ := I.look
  refine PySem.W.set_plain X J hs (PySem.W.osa_open (s := { s with toks := s.toks + 1 }) (r := none) X J hp ht fun b => ?_)
  obtain ⟨cd, hc, hd'⟩ := PySem.W.any_some hh
  have hx : s.heap.get? x = some ⟨.ref C, some dx, .plain, #[]⟩ := I.obj
  refine wpAny_bind (wpAny_pure (wpAny_bind (wpAny_bind (wpAny_loadPart hx (wpAny_bind (PySem.W.Looks.here (s := { s with toks := s.toks + 1 }) (PySem.W.looks_clsIn X hc) ?_))))))
  rw [hd']
  refine wpAny_pure (a := some dx) (wpAny_bind (wpAny_pure (wpAny_bind ?_)))
  refine wpAny_nsSet1 (s := { s with toks := s.toks + 1 }) I.ns fun h' hn2 hs2 => ?_
  obtain ⟨oD, esD, epD, hoD, hdD, hcD⟩ := hn2.count (PySem.Within.cons name v hw)
  refine wpAny_bind (wpAny_lookBehind hoD (by rw [hdD]; exact pastItsLine_dict (Nat.le_trans hcD (by rw [List.length_cons]; omega))) ?_)
  exact wpAny_pure (h _ ⟨(hs2.2 _ (Ne.symm I.ne)).trans I.obj, hn2, I.ne⟩ hs2)

/-- C(..): the dict at the heap's end, the instance behind it; then its __init__ -/
theorem make_map {R : Result → Shared → Prop} {vs : List Value} {kw : List (Str × Value)} (X : K.In s.heap) (hm : PySem.W.makesIn K C = true)
    (hi : PySem.W.findIn K (.ref C) "__init__" = some (some (.ref f))) (hf : PySem.W.typeIn K (.ref f) = some (.type "function"))
    (h : codeAny (model prog w) (A.under (.builtin "type.__call__" ⟨.ref C :: vs, kw⟩)) (.call (.ref f) ⟨.ref (s.heap.objs.size + 1) :: vs, kw⟩) (PySem.W.InitBack (s.heap.objs.size + 1) R)
      { s with heap := (s.heap.push PySem.W.emptyDict).push (PySem.W.instObj C s.heap.objs.size) }) :
    codeAny (model prog w) A (.call (.ref C) ⟨vs, kw⟩) R s := by
  obtain ⟨hh, g, d, t, os⟩ := s
  exact PySem.W.make_core (PySem.W.makes_of X hm) (PySem.W.looks_findIn X hi) (fun self => PySem.W.bind_fn X self hf) (.inl rfl) h
end

/-! ### the attributes as a list of pairs -/
def putF (f : Str) (v : V) : List (Str × V) → List (Str × V)
  | [] => [(f, v)]
  | (g, x) :: r => if g = f then (g, v) :: r else (g, x) :: putF f v r
theorem lookup_putF (f g : Str) (v : V) : ∀ fs : List (Str × V), (putF f v fs).lookup g = if g = f then some v else fs.lookup g
  | [] => by
    show List.lookup g [(f, v)] = _
    by_cases h : g = f
    · have hb : (g == f) = true := beq_iff_eq.mpr h
      simp only [List.lookup, hb, if_pos h]
    · have hb : (g == f) = false := beq_eq_false_iff_ne.mpr h
      simp only [List.lookup, hb, if_neg h]
  | (k, x) :: r => by
    have ih := lookup_putF f g v r
    rw [show putF f v ((k, x) :: r) = (if k = f then (k, v) :: r else (k, x) :: putF f v r) from rfl]
    by_cases hk : k = f
    · rw [if_pos hk]
      by_cases h : g = k
      · have hb : (g == k) = true := beq_iff_eq.mpr h
        simp only [List.lookup, hb, if_pos (h.trans hk)]
      · have hb : (g == k) = false := beq_eq_false_iff_ne.mpr h
        simp only [List.lookup, hb, if_neg (fun e : g = f => h (e.trans hk.symm))]
    · rw [if_neg hk]
      by_cases h : g = k
      · have hb : (g == k) = true := beq_iff_eq.mpr h
        simp only [List.lookup, hb, if_neg (fun e : g = f => hk (h.symm.trans e))]
      · have hb : (g == k) = false := beq_eq_false_iff_ne.mpr h
        simp only [List.lookup, hb]
        exact ih
theorem keys_putF (f : Str) (v : V) : ∀ fs : List (Str × V), f ∈ (putF f v fs).map (·.1) ∧ ∀ g, g ∈ fs.map (·.1) → g ∈ (putF f v fs).map (·.1)
  | [] => ⟨by simp [putF], fun g h => by simp at h⟩
  | (k, x) :: r => by
    obtain ⟨i1, i2⟩ := keys_putF f v r
    rw [show putF f v ((k, x) :: r) = (if k = f then (k, v) :: r else (k, x) :: putF f v r) from rfl]
    by_cases hk : k = f
    · rw [if_pos hk]
      subst hk
      exact ⟨by simp, fun g h => by simpa using h⟩
    · rw [if_neg hk]
      refine ⟨?_, fun g h => ?_⟩
      · rw [List.map_cons]
        exact List.mem_cons_of_mem _ i1
      · rw [List.map_cons] at h ⊢
        rcases List.mem_cons.mp h with e | e
        · exact List.mem_cons.mpr (.inl e)
        · exact List.mem_cons_of_mem _ (i2 g e)
theorem length_putF (f : Str) (v : V) : ∀ fs : List (Str × V), (putF f v fs).length ≤ fs.length + 1
  | [] => by simp [putF]
  | (k, x) :: r => by
    have ih := length_putF f v r
    rw [show putF f v ((k, x) :: r) = (if k = f then (k, v) :: r else (k, x) :: putF f v r) from rfl]
    by_cases hk : k = f
    · rw [if_pos hk, List.length_cons, List.length_cons]; omega
    · rw [if_neg hk, List.length_cons, List.length_cons]; omega

theorem RelO.some_of {v : V} {o : Option Value} (r : RelO (some v) o) : ∃ u, o = some u ∧ RelV v u := by
  cases o with
  | none => exact (show False from r).elim
  | some u => exact ⟨u, rfl, r⟩
theorem RelO.none_of {o : Option Value} (r : RelO none o) : o = none := by
  cases o with
  | none => rfl
  | some u => exact (show False from r).elim
theorem handed_of {v : V} {u : Value} (r : RelV v u) : PySem.W.handedIn u = true := by
  cases v with
  | non => cases (show u = Value.none from r); rfl
  | bl b => cases (show u = Value.bool b from r); rfl
  | int i => obtain ⟨t, e⟩ := (show ∃ t, u = Value.int i t from r); cases e; rfl
  | str x => obtain ⟨t, e⟩ := (show ∃ t, u = Value.str x t from r); cases e; rfl
  | byt b => obtain ⟨t, e⟩ := (show ∃ t, u = Value.bytes b t from r); cases e; rfl
  | flt b => obtain ⟨t, e⟩ := (show ∃ t, u = Value.float b t from r); cases e; rfl
  | ref a => cases (show u = Value.ref a from r); rfl
  | ty n => cases (show u = Value.type n from r); rfl

section
variable {P : Program} {w : World} {H H' : Hp} {h h' : Heap} {a C dx : Addr} {fs fs' : List (Str × V)}
theorem ins_get (hok : HOk P w H h) (e : H a = some (.ins C dx fs)) : ∃ mA, ObjM h a dx C mA ∧ (∀ f, RelO (fs.lookup f) (mA f)) ∧ PySem.Within mA (fs.map (·.1)) ∧ fs.length ≤ 1000 ∧ H dx = some (.own a) := by
  obtain ⟨d, z, ne, ob, mA, n, r, q⟩ := (show ObjOk P w H h a (.ins C dx fs) from hok a _ e)
  exact ⟨mA, ⟨ob, n, ne⟩, r, q, z, d⟩
end

/-! ### what of the text a class must have -/
structure Cls (K : PySem.W.Frag) (C : Addr) : Prop where
  pg : PySem.W.plainGet K C Str.empty = true
  hd : PySem.W.hasDictIn K C = true
  po : PySem.W.plainOver K C = true
  sa : PySem.W.findIn K (.ref C) "__setattr__" = some (some (.builtin "object.__setattr__"))
theorem Cls.get {K : PySem.W.Frag} {C : Addr} (c : Cls K C) (f : Str) : PySem.W.plainGet K C f = true := c.pg
/-- no class of it has the name -/
def NoAttr (K : PySem.W.Frag) (C : Addr) (f : Str) : Prop := PySem.W.findIn K (.ref C) f = some none
theorem NoAttr.taker {K : PySem.W.Frag} {C : Addr} {f : Str} (n : NoAttr K C f) : PySem.W.takerIn K C f = some none := by
  unfold PySem.W.takerIn
  rw [show PySem.W.findIn K (.ref C) f = some none from n]
  rfl
/-- a method: a plain def of the class or of one above it -/
structure Meth (K : PySem.W.Frag) (C : Addr) (m : Str) (f : Addr) : Prop where
  at_ : PySem.W.findIn K (.ref C) m = some (some (.ref f))
  fn : PySem.W.isFn K (.ref f) = true
  kp : PySem.W.keepIn K (.ref f) = true

section
variable {X : Cx} {pins : List (Addr × Obj)} {σ : St} {H : Hp} {s : Shared} {a C dx : Addr} {fs : List (Str × V)} {f : Str} {v : V} {A : Around} {E : Value → Shared → Prop}

theorem getattr_ok {b : Bool} {Q : Value → Shared → Prop} (I : Inv X pins σ H s) (e : H a = some (.ins C dx fs)) (c : Cls X.K C) (n : NoAttr X.K C f) (l : fs.lookup f = some v)
    (h : ∀ u s', Inv X pins σ H s' → RelV v u → Q u s') : wpAny (model X.prog X.w) A (getAttr (.ref a) f b) Q E s := by
  obtain ⟨mA, O, r, _, _, _⟩ := ins_get I.hok e
  obtain ⟨u, hu, ru⟩ := RelO.some_of (v := v) (o := mA f) (by rw [← l]; exact r f)
  exact get_map I.kIn O (c.get f) c.hd n hu (handed_of ru) (h u _ (I.tok _) ru)

theorem getmeth_ok {m : Str} {g : Addr} {pl : Sem Bool} {Q : Value × List Value → Shared → Prop} (I : Inv X pins σ H s) (e : H a = some (.ins C dx fs)) (c : Cls X.K C) (k : Meth X.K C m g) (l : fs.lookup m = none)
    (h : Q (.ref g, [.ref a]) s) : wpAny (model X.prog X.w) A (getMethod (.ref a) m pl) Q E s := by
  obtain ⟨mA, O, r, _, _, _⟩ := ins_get I.hok e
  have hn : mA m = none := RelO.none_of (by rw [← l]; exact r m)
  exact get_meth I.kIn O (c.get m) k.at_ k.fn hn h

theorem setattr_ok {y : V} {u : Value} {Q : Unit → Shared → Prop} (I : Inv X pins σ H s) (e : H a = some (.ins C dx fs)) (c : Cls X.K C) (n : NoAttr X.K C f) (hl : fs.length < 1000) (ry : RelV y u)
    (h : ∀ s', Inv X pins σ (upd H a (.ins C dx (putF f y fs))) s' → Q () s') : wpAny (model X.prog X.w) A (setAttr (.ref a) f u) Q E s := by
  obtain ⟨mA, O, r, wi, _, ho⟩ := ins_get I.hok e
  have hz : (fs.map (·.1)).length ≤ sizeLine := by rw [List.length_map, sizeLine_eq]; omega
  refine set_map I.kIn O c.sa c.po n.taker c.hd wi hz fun h' O' sb => h _ ?_
  have hd : ∃ o, h'.get? dx = some o := let ⟨o, _, _, e', _⟩ := O'.ns; ⟨o, e'⟩
  refine I.write (x := a) (e := dx) (by rw [e]; exact True.intro) (.inr ho) (fun b q hb z => (sb.2 b hb).trans z) hd ?_
  refine ⟨by rw [upd_ne O.ne]; exact ho, ?_, O.ne, O'.obj, _, O'.ns, fun g => ?_, fun g hg => ?_⟩
  · have := length_putF f y fs; omega
  · show RelO ((putF f y fs).lookup g) (if g = f then some u else mA g)
    rw [lookup_putF]
    by_cases q : g = f
    · rw [if_pos q, if_pos q]; exact ry
    · rw [if_neg q, if_neg q]; exact r g
  · by_cases q : g = f
    · rw [q]; exact (keys_putF f y fs).1
    · refine (keys_putF f y fs).2 g (wi g fun z => hg ?_)
      show (if g = f then some u else mA g) = none
      rw [if_neg q]; exact z

/-- a new instance, tracked, without attributes -/
theorem Inv.made (I : Inv X pins σ H s) : Inv X pins σ (upd (upd H s.heap.objs.size (.own (s.heap.objs.size + 1))) (s.heap.objs.size + 1) (.ins C s.heap.objs.size []))
    { s with heap := (s.heap.push PySem.W.emptyDict).push (PySem.W.instObj C s.heap.objs.size) } := by
  have e1 : (s.heap.push PySem.W.emptyDict).get? s.heap.objs.size = some PySem.W.emptyDict := Heap.get?_push_size s.heap rfl
  have e2 : ((s.heap.push PySem.W.emptyDict).push (PySem.W.instObj C s.heap.objs.size)).get? (s.heap.objs.size + 1) = some (PySem.W.instObj C s.heap.objs.size) := by
    have := Heap.get?_push_size (s.heap.push PySem.W.emptyDict) (o := PySem.W.instObj C s.heap.objs.size) rfl
    rwa [Heap.size_push] at this
  have e3 : (s.heap.push PySem.W.emptyDict).Ns s.heap.objs.size (fun _ => none) := ⟨PySem.W.emptyDict, #[], _, e1, rfl, (fun e he => absurd he (by simp)), fun _ => rfl⟩
  have I1 := I.laid (a := s.heap.objs.size) (o := .own (s.heap.objs.size + 1)) (h' := s.heap.push PySem.W.emptyDict) (t' := s.toks) (fun b u q => Heap.get?_push_of_some _ q) (Nat.le_refl _) ⟨_, e1⟩
  refine I1.laid (a := s.heap.objs.size + 1) (o := .ins C s.heap.objs.size []) (t' := s.toks) (fun b u q => Heap.get?_push_of_some _ q) (Nat.le_of_eq (Heap.size_push _ _)) ?_
  have ne : s.heap.objs.size ≠ s.heap.objs.size + 1 := Nat.ne_of_lt (Nat.lt_succ_self _)
  refine ⟨by rw [upd_ne ne, upd_same], Nat.zero_le _, ne, e2, fun _ => none, (Heap.Ns1.of_empty e3).at fun o q => Heap.get?_push_of_some _ q, fun _ => True.intro, fun y hy => absurd rfl hy⟩

/-- e.f where nothing but the object is asked: through attributeBase (super) and the last hold -/
theorem attr_of {prog : Program} {w : World} {env : Env} {e : Expr} {f : Str} {pos : Pos} {s : Shared} {Q : Value → Shared → Prop} (hb : attributeBase e f env (eval e env) = eval e env)
    (h : wpAny (model prog w) A (eval e env) (fun o s₁ => wpAny (model prog w) A (getAttr o f true) Q E s₁) E s) : wpAny (model prog w) A (eval (.Attribute e f pos) env) Q E s :=
  Attribute_any_ h (by rw [arm_eval_Attribute, hb])
end

/-! ### readings and rules -/
/-- e.f, an attribute of the instance -/
def tFld (K : PySem.W.Frag) (ta : TE) (f : Str) : TE := fun σ H Q => ta σ H fun x H1 => ∃ a C dx fs v, x = .ref a ∧ H1 a = some (.ins C dx fs) ∧ Cls K C ∧ NoAttr K C f ∧ fs.lookup f = some v ∧ Q v H1
/-- e.f = value -/
def sFld (K : PySem.W.Frag) (ta tv : TE) (f : Str) : TS := fun D σ H => tv σ H fun y H1 => ta σ H1 fun x H2 => ∃ a C dx fs, x = .ref a ∧ H2 a = some (.ins C dx fs) ∧ Cls K C ∧ NoAttr K C f ∧ fs.length < 1000 ∧
  D.nx σ (upd H2 a (.ins C dx (putF f y fs)))
section
variable {X : Cx} {o e value : Expr} {f : Str} {pos pos' tpos : Pos} {ta tv : TE}
theorem pe_fld (he : PE X e ta) (hb : attributeBase e f X.env (eval e X.env) = eval e X.env) : PE X (.Attribute e f pos) (tFld X.K ta f) := by
  intro pins s σ H Q I h
  refine attr_of hb (thn (he pins s σ H _ I h) fun u s1 ⟨x, H1, I1, rx, a, C, dx, fs, v, ex, ea, c, n, l, q⟩ => ?_)
  subst ex
  obtain rfl : u = Value.ref a := rx
  exact getattr_ok I1 ea c n l fun u' s2 I2 ru => ⟨v, H1, I2, ru, q⟩
theorem ps_fld (ha : PE X o ta) (hv : PE X value tv) (hs : swapsWith value (some (.Attribute o f pos')) pos.line X.env = pure false) : PS X (.Assign [.Attribute o f pos'] value pos) (sFld X.K ta tv f) := by
  intro pins s σ H D I h
  refine plainObj_wpAny_Assign_Attribute (thn (hv pins s σ H _ I h) fun u s1 ⟨y, H1, I1, ry, q⟩ => thn (ha pins s1 σ H1 _ I1 q) fun ov s2 ⟨x, H2, I2, rx, a, C, dx, fs, ex, ea, c, n, l, q2⟩ => ?_) hs
  subst ex
  obtain rfl : ov = Value.ref a := rx
  exact setattr_ok I2 ea c n l ry fun s3 I3 => ⟨σ, _, I3, q2⟩
end

/-! ### isinstance -/
section
variable {X : Cx} {pins : List (Addr × Obj)} {σ : St} {H : Hp} {s : Shared} {A : Around} {E : Value → Shared → Prop} {Q : Value → Shared → Prop} {c : Value} {b : Bool}
end
end L2

namespace L2
open PySem PySem.Spec PyProof.Rows

/-! ### room -/
structure Room (k : Nat) (A : Around) : Prop where
  hd : A.handled = none
  dp : A.depth + 3 * k + 5 < recursionLimit
  un : A.units + 16 * k + 200 < cLine
theorem Room.mono {j k : Nat} {A : Around} (r : Room k A) (h : j ≤ k) : Room j A := ⟨r.hd, by have := r.dp; omega, by have := r.un; omega⟩
theorem Room.deeper {k : Nat} {A : Around} (r : Room (k + 1) A) (env : Env) : Room k (A.deeper env) :=
  ⟨r.hd, by have := r.dp; show A.depth + 1 + 3 * k + 5 < _; omega, by have := r.un; show A.units + 3 + 16 * k + 200 < _; omega⟩
theorem make_depth {A : Around} {C : Addr} {us : List Value} {kw : List (Str × Value)} : (A.under (.builtin "type.__call__" ⟨.ref C :: us, kw⟩)).depth = A.depth + 1 := by
  first | rfl | simp [Around.under, Code.weight, Code.isCreation, Code.isGuard, Code.isCaller, Code.frames, Code.isFrame, guardIds]
theorem make_units {A : Around} {C : Addr} {us : List Value} {kw : List (Str × Value)} : (A.under (.builtin "type.__call__" ⟨.ref C :: us, kw⟩)).units = A.units + 1 := by
  first | rfl | simp [Around.under, Code.cUnits, Code.frames, Code.isFrame]
theorem Room.make {k : Nat} {A : Around} (r : Room (k + 1) A) (C : Addr) (us : List Value) (kw : List (Str × Value)) : Room k (A.under (.builtin "type.__call__" ⟨.ref C :: us, kw⟩)) :=
  ⟨r.hd, by have := r.dp; rw [make_depth]; omega, by have := r.un; rw [make_units]; omega⟩
theorem Room.depth {k : Nat} {A : Around} (r : Room k A) : A.depth < recursionLimit := by have := r.dp; omega
/-! ### argument lists and displays -/
def tNil : TA := fun _ H Q => Q [] H
def tCons (ta : TE) (tr : TA) : TA := fun σ H Q => ta σ H fun x H1 => tr σ H1 fun xs H2 => Q (x :: xs) H2
section
variable {X : Cx} {e : Expr} {es : List Expr} {te : TE} {t : TA} {pos : Pos}
theorem pa_nil : PA X [] tNil := fun _ _ _ _ H Q I h => Calls.spliced_nil ⟨[], H, I, .nil, h⟩
theorem pa_cons (ha : PE X e te) (hr : PA X es t) (hs : starEach (e :: es) X.env = (false, eval e X.env) :: starEach es X.env := by rfl) : PA X (e :: es) (tCons te t) := by
  intro pos pins s σ H Q I h
  rw [hs]
  show wpAny _ _ (spliced ((false, eval e X.env) :: backTo pos (starEach es X.env))) _ _ s
  refine Calls.spliced_cons (thn (ha pins s σ H _ I h) fun u s1 ⟨x, H1, I1, r1, q1⟩ => ?_)
  exact thn (hr pos pins s1 σ H1 _ I1 q1) fun us s2 ⟨xs, H2, I2, r2, q2⟩ => ⟨x :: xs, H2, I2, .cons r1 r2, q2⟩

/-- a tuple, a list of written items -/
def tTup (t : TA) : TE := fun σ H Q => t σ H fun xs H1 => xs.length ≤ sizeLine ∧ ∀ p, H1 p = none → Q (.ref p) (upd H1 p (.tup xs))
def tLst (t : TA) : TE := fun σ H Q => t σ H fun xs H1 => xs.length ≤ sizeLine ∧ ∀ p, H1 p = none → Q (.ref p) (upd H1 p (.lst xs))
theorem pe_tup {x1} (h : PA X es t) : PE X (.Tuple es x1 pos) (tTup t) := by
  intro pins s σ H Q I hq
  refine wpAny_Tuple_spliced (thn (h pos pins s σ H _ I hq) fun us s1 ⟨xs, H1, I1, r, z, q⟩ => ⟨by rw [← r.length]; exact z, ?_⟩)
  have hf : H1 s1.heap.objs.size = none := I1.hok.fresh (Nat.le_refl _)
  refine ⟨.ref s1.heap.objs.size, upd H1 s1.heap.objs.size (.tup xs), I1.laid (t' := s1.toks) (fun b u e => Heap.get?_push_of_some _ e) (Nat.le_refl _) ?_, rfl, q _ hf⟩
  exact ⟨z, us, r, ⟨_, Heap.get?_push_size _ rfl, rfl, _, rfl⟩⟩
theorem pe_lst (h : PA X es t) : PE X (.List es pos) (tLst t) := by
  intro pins s σ H Q I hq
  refine wpAny_List_spliced (thn (h pos pins s σ H _ I hq) fun us s1 ⟨xs, H1, I1, r, z, q⟩ => ⟨by rw [← r.length]; exact z, ?_⟩)
  have hf : H1 s1.heap.objs.size = none := I1.hok.fresh (Nat.le_refl _)
  refine ⟨.ref s1.heap.objs.size, upd H1 s1.heap.objs.size (.lst xs), I1.laid (t' := s1.toks) (fun b u e => Heap.get?_push_of_some _ e) (Nat.le_refl _) ?_, rfl, q _ hf⟩
  exact ⟨z, us, 0, r, Heap.get?_push_size _ rfl⟩
end

/-! ### what a def promises -/
/-- a def's promise: the bound arguments in the parameters' order, the heap, the wanted end, the wanted exception -/
abbrev Sp := List V → Hp → VK → XK → Prop
/-- how an exception lies behind a call (file 08 gives it): the callers' frames, abstract heap and state ahead of the call, the wish, the exception, the state -/
abbrev CXT := List Env → Hp → Shared → XK → Value → Shared → Prop

/-- the state at a call -/
structure Env0 (P : Program) (w : World) (K : PySem.W.Frag) (mg : Str → Option Value) (base : Heap) (A : Around) (outer : List Env) (s : Shared) (H : Hp) : Prop where
  frames : A.frames = some outer
  mod : Mod K mg base
  bs : ∀ b o, base.get? b = some o → s.heap.get? b = some o ∧ H b = none
  bsz : base.objs.size ≤ s.heap.objs.size
  funs : s.heap.FunFrames base outer
  frf : ∀ b ∈ frs outer, H b = none
  hok : HOk P w H s.heap
  bare : AllBare s.gens
/-- a call's end -/
def CE (outer : List Env) (P : Program) (w : World) (H : Hp) (s : Shared) (Q : VK) (u : Value) (s' : Shared) : Prop :=
  ∃ v H', s'.os = s.os ∧ AllBare s'.gens ∧ Un (frs outer) [] H H' s.heap s'.heap ∧ HOk P w H' s'.heap ∧ RelV v u ∧ Q v H'
def CR (CX : CXT) (outer : List Env) (P : Program) (w : World) (H : Hp) (s : Shared) (Q : VK) (E : XK) (r : Result) (s' : Shared) : Prop :=
  match r with
  | .ok (.ret u) => CE outer P w H s Q u s'
  | .ok _ => False
  | .error e => CX outer H s E e s'
structure FnOk (P : Program) (w : World) (K : PySem.W.Frag) (mg : Str → Option Value) (base : Heap) (CX : CXT) (k : Nat) (f : Addr) (fd : FuncData) (ps : List Str) (sp : Sp) : Prop where
  len : ∀ vs H Q E, sp vs H Q E → vs.length = ps.length
  run : ∀ (A : Around) (outer : List Env) (s : Shared) (H : Hp) (args : Args) (us : List Value) (vs : List V) (Q : VK) (E : XK), Room k A → Env0 P w K mg base A outer s H → BindsTo s fd args (ps.zip us) → Vals vs us → sp vs H Q E →
    codeAny (model P w) A (.call (.ref f) args) (CR CX outer P w H s Q E) s
theorem Env0.make {P : Program} {w : World} {K : PySem.W.Frag} {mg : Str → Option Value} {base : Heap} {A : Around} {outer : List Env} {s : Shared} {H : Hp} (e : Env0 P w K mg base A outer s H) (C : Addr) (us : List Value) (kw : List (Str × Value)) :
    Env0 P w K mg base (A.under (.builtin "type.__call__" ⟨.ref C :: us, kw⟩)) outer s H := ⟨by first | exact e.frames | (simpa [Around.under, Code.envs, Code.isFrame, pushEnvs] using e.frames), e.mod, e.bs, e.bsz, e.funs, e.frf, e.hok, e.bare⟩
section
variable {X : Cx} {pins : List (Addr × Obj)} {σ : St} {H : Hp} {s s' : Shared}
/-- from a body: what a callee wants -/
theorem Inv.env0 (I : Inv X pins σ H s) : Env0 X.prog X.w X.K X.mg X.base X.A X.stack s H :=
  ⟨I.ok.frames, I.ok.mod, I.bs, Nat.le_trans I.ok.bsz I.sz, I.stack, I.stkFree, I.hok, I.bare⟩
/-- behind a call -/
theorem Inv.after {Q : VK} {u : Value} (I : Inv X pins σ H s) (h : CE X.stack X.prog X.w H s Q u s') : EP X pins σ Q u s' := by
  obtain ⟨v, H', os, bare, un, hok, r, q⟩ := h
  obtain ⟨hh, g, d, t, os'⟩ := s'
  obtain rfl : os' = s.os := os
  exact ⟨v, H', I.call (h' := hh) (g' := g) (d' := d) (t' := t) (ch := []) un hok bare (fun b z => absurd z (by simp)), r, q⟩
end

/-! ### calls -/
/-- f(..): the written arguments, then the defaults dvs; E: what is wanted of an exception -/
def tCall (sp : Sp) (dvs : List V) (E : XK) (t : TA) : TE := fun σ H Q => t σ H fun vs H1 => sp (vs ++ dvs) H1 Q E
/-- o.m(..) of an instance of the class at C -/
def tMeth (C : Addr) (m : Str) (sp : Sp) (dvs : List V) (E : XK) (ta : TE) (t : TA) : TE := fun σ H Q => ta σ H fun x H1 => ∃ a dx fs, x = .ref a ∧ H1 a = some (.ins C dx fs) ∧ fs.lookup m = none ∧
  t σ H1 fun vs H2 => sp (x :: (vs ++ dvs)) H2 Q E
/-- C(..): a new instance and its dict, then __init__ -/
def tMake (C : Addr) (sp : Sp) (dvs : List V) (E : XK) (t : TA) : TE := fun σ H Q => t σ H fun vs H1 => ∀ x dx, H1 x = none → H1 dx = none → dx ≠ x →
  sp (.ref x :: (vs ++ dvs)) (upd (upd H1 dx (.own x)) x (.ins C dx [])) (fun v H2 => v = .non ∧ Q (.ref x) H2) E

/-- how the parameters are bound: us the positional arguments, kw the keywords' values by name, ds the defaults that fill up -/
def Binds (K : PySem.W.Frag) (fd : FuncData) (ps : List Str) (ds : List Value) : Prop :=
  ∀ (s : Shared) (us : List Value), K.In s.heap → (us ++ ds).length = ps.length → BindsTo s fd ⟨us, []⟩ (ps.zip (us ++ ds))
/-- every parameter is given -/
theorem Binds.all {K : PySem.W.Frag} {fd : FuncData} {ps : List Str} (h : ∀ us : List Value, us.length = ps.length → bindArgs fd ⟨us, []⟩ = pure (ps.zip us)) : Binds K fd ps [] := fun s us _ hl => by
  rw [List.append_nil] at hl ⊢
  exact .of_eq (h us hl)

/-- an exception of a callee reaches what this body wants of exceptions -/
def Passes (CX : CXT) (X : Cx) (E : XK) : Prop := ∀ (pins : List (Addr × Obj)) (σ : St) (H : Hp) (s : Shared) (e : Value) (s' : Shared), Inv X pins σ H s → CX X.stack H s E e s' → X.xe e s'

section
variable {X : Cx} {CX : CXT} {k : Nat} {f C : Addr} {fd : FuncData} {ps : List Str} {sp : Sp} {dvs : List V} {ds : List Value} {E : XK} {x m : Str} {p pos apos : Pos} {e o : Expr} {es : List Expr} {ta : TE} {t : TA}

/-- the callee runs -/
theorem run_fn {pins : List (Addr × Obj)} {σ : St} {H : Hp} {s : Shared} {Q : VK} {us : List Value} {vs : List V} (F : FnOk X.prog X.w X.K X.mg X.base CX k f fd ps sp) (hr : Room k X.A) (hb : Binds X.K fd ps ds) (hd : Vals dvs ds) (hx : Passes CX X E)
    (I : Inv X pins σ H s) (r : Vals vs us) (h : sp (vs ++ dvs) H Q E) : wpAny (model X.prog X.w) X.A (call (.ref f) us) (EP X pins σ Q) X.xe s := by
  have r2 : Vals (vs ++ dvs) (us ++ ds) := r.append hd
  have hl : (us ++ ds).length = ps.length := by rw [← r2.length]; exact F.len _ _ _ _ h
  refine wpAny_call (codeAny_mono (F.run X.A X.stack s H ⟨us, []⟩ (us ++ ds) (vs ++ dvs) Q E hr I.env0 (hb s us I.kIn hl) r2 h) fun r s' hq => ?_)
  cases r with
  | error e => exact hx pins σ H s e s' I hq
  | ok fl =>
    cases fl with
    | ret u => exact I.after hq
    | next => exact False.elim hq
    | brk => exact False.elim hq
    | cont => exact False.elim hq

theorem pe_call (F : FnOk X.prog X.w X.K X.mg X.base CX k f fd ps sp) (hr : Room k X.A) (hg : Gl X x) (hm : X.mg x = some (.ref f)) (hk : PySem.W.keepIn X.K (.ref f) = true) (hb : Binds X.K fd ps ds) (hd : Vals dvs ds) (hx : Passes CX X E)
    (ha : PA X (e :: es) t) (hdb : (x == ("__debug__" : Str)) = false := by decide) (he : starEach (e :: es) X.env = (false, eval e X.env) :: starEach es X.env := by rfl) (hpl : (backTo pos (starEach es X.env)).any (·.1) = false := by rfl) :
    PE X (.Call (.Name x p) (e :: es) [] pos) (tCall sp dvs E t) := by
  intro pins s σ H Q I h
  refine wpAny_Call_Name_kw (ld_glob I hg hm ?_ hdb)
  refine PySem.W.callWith_K (h₀ := X.base) I.ok.mod.kin hk (thn (ha pos pins s σ H _ I h) fun us s1 ⟨vs, H1, I1, r, q⟩ => ⟨I1.kIn, ?_⟩) he hpl
  exact run_fn F hr hb hd hx I1 r q
/-- o.m(e, ..) -/
theorem pe_meth {pl : Sem Bool} (he : PE X o ta) (c : Cls X.K C) (hm : Meth X.K C m f) (F : FnOk X.prog X.w X.K X.mg X.base CX k f fd ps sp) (hr : Room k X.A) (hb : Binds X.K fd ps ds) (hd : Vals dvs ds) (hx : Passes CX X E) (ha : PA X (e :: es) t)
    (hst : starEach (e :: es) X.env = (false, eval e X.env) :: starEach es X.env := by rfl) (hpl : (backTo pos (starEach es X.env)).any (·.1) = false := by rfl)
    (ht : eval (.Call (.Attribute o m apos) (e :: es) [] pos) X.env = (do
      let ov ← eval o X.env
      standAt apos.atName
      let (f, first) ← holding [ov] (getMethod ov m pl)
      callWith pos f first (backTo pos (starEach (e :: es) X.env)) (backToKw pos (keywordEach [] X.env))) := by rfl) :
    PE X (.Call (.Attribute o m apos) (e :: es) [] pos) (tMeth C m sp dvs E ta t) := by
  intro pins s σ H Q I h
  refine PySem.W.methodCall_KW (pl := pl) (thn (he pins s σ H _ I h) fun u s1 ⟨x, H1, I1, rx, a, dx, fs, ex, ea, l, q⟩ => ?_) ht
  subst ex
  obtain rfl : u = Value.ref a := rx
  refine getmeth_ok I1 ea c hm l ?_
  refine PySem.W.callWith_K (first := [.ref a]) (h₀ := X.base) I.ok.mod.kin hm.kp (thn (ha pos pins s1 σ H1 _ I1 q) fun us s2 ⟨vs, H2, I2, r, q2⟩ => ⟨I2.kIn, ?_⟩) hst hpl
  exact run_fn (us := .ref a :: us) (vs := .ref a :: vs) F hr hb hd hx I2 (.cons rfl r) q2
/-- o.m() -/
theorem pe_meth0 {pl : Sem Bool} (he : PE X o ta) (c : Cls X.K C) (hm : Meth X.K C m f) (F : FnOk X.prog X.w X.K X.mg X.base CX k f fd ps sp) (hr : Room k X.A) (hb : Binds X.K fd ps ds) (hd : Vals dvs ds) (hx : Passes CX X E)
    (ht : eval (.Call (.Attribute o m apos) [] [] pos) X.env = (do
      let ov ← eval o X.env
      standAt apos.atName
      let (f, first) ← holding [ov] (getMethod ov m pl)
      callWith pos f first (backTo pos (starEach [] X.env)) (backToKw pos (keywordEach [] X.env))) := by rfl) :
    PE X (.Call (.Attribute o m apos) [] [] pos) (tMeth C m sp dvs E ta tNil) := by
  intro pins s σ H Q I h
  refine PySem.W.methodCall_KW (pl := pl) (thn (he pins s σ H _ I h) fun u s1 ⟨x, H1, I1, rx, a, dx, fs, ex, ea, l, q⟩ => ?_) ht
  subst ex
  obtain rfl : u = Value.ref a := rx
  refine getmeth_ok I1 ea c hm l ?_
  exact PySem.W.callWith_K0 (first := [.ref a]) I1.kIn hm.kp (run_fn (us := [.ref a]) (vs := [.ref a]) F hr hb hd hx I1 (.cons rfl .nil) q)

/-- what a class must have to be made -/
structure Mk (K : PySem.W.Frag) (C f : Addr) : Prop where
  makes : PySem.W.makesIn K C = true
  init : PySem.W.findIn K (.ref C) "__init__" = some (some (.ref f))
  fn : PySem.W.isFn K (.ref f) = true
  kp : PySem.W.keepIn K (.ref C) = true

theorem run_make {pins : List (Addr × Obj)} {σ : St} {H : Hp} {s : Shared} {Q : VK} {us : List Value} {vs : List V} (M : Mk X.K C f) (F : FnOk X.prog X.w X.K X.mg X.base CX k f fd ps sp) (hr : Room (k + 1) X.A) (hb : Binds X.K fd ps ds) (hd : Vals dvs ds)
    (hx : Passes CX X E) (I : Inv X pins σ H s) (r : Vals vs us)
    (h : ∀ x dx, H x = none → H dx = none → dx ≠ x → sp (.ref x :: (vs ++ dvs)) (upd (upd H dx (.own x)) x (.ins C dx [])) (fun v H2 => v = .non ∧ Q (.ref x) H2) E) :
    wpAny (model X.prog X.w) X.A (call (.ref C) us) (EP X pins σ Q) X.xe s := by
  have hq := h (s.heap.objs.size + 1) s.heap.objs.size (I.hok.fresh (Nat.le_succ _)) (I.hok.fresh (Nat.le_refl _)) (Nat.ne_of_lt (Nat.lt_succ_self _))
  have I2 := Inv.made (C := C) I
  have r2 : Vals (V.ref (s.heap.objs.size + 1) :: (vs ++ dvs)) (Value.ref (s.heap.objs.size + 1) :: (us ++ ds)) := .cons rfl (r.append hd)
  have hl : (Value.ref (s.heap.objs.size + 1) :: us ++ ds).length = ps.length := by
    have e := r2.length
    rw [F.len _ _ _ _ hq] at e
    exact e.symm
  refine wpAny_call (make_map (f := f) I.kIn M.makes M.init (beq_iff_eq.mp M.fn) (codeAny_mono (F.run _ X.stack _ _ ⟨Value.ref (s.heap.objs.size + 1) :: us, []⟩ (Value.ref (s.heap.objs.size + 1) :: (us ++ ds)) _ _ E (hr.make C us [])
    (I2.env0.make C us []) (hb _ (Value.ref (s.heap.objs.size + 1) :: us) I2.kIn hl) r2 hq) fun r s' hq' => ?_))
  cases r with
  | error e => exact hx pins σ _ _ e s' I2 hq'
  | ok fl =>
    cases fl with
    | ret u =>
      obtain ⟨v, H', I3, rv, ev, q3⟩ := I2.after hq'
      subst ev
      exact ⟨rv, ⟨V.ref (s.heap.objs.size + 1), H', I3, rfl, q3⟩⟩
    | next => exact False.elim hq'
    | brk => exact False.elim hq'
    | cont => exact False.elim hq'
theorem pe_make (M : Mk X.K C f) (F : FnOk X.prog X.w X.K X.mg X.base CX k f fd ps sp) (hr : Room (k + 1) X.A) (hg : Gl X x) (hm : X.mg x = some (.ref C)) (hb : Binds X.K fd ps ds) (hd : Vals dvs ds) (hx : Passes CX X E)
    (ha : PA X (e :: es) t) (hdb : (x == ("__debug__" : Str)) = false := by decide) (he : starEach (e :: es) X.env = (false, eval e X.env) :: starEach es X.env := by rfl) (hpl : (backTo pos (starEach es X.env)).any (·.1) = false := by rfl) :
    PE X (.Call (.Name x p) (e :: es) [] pos) (tMake C sp dvs E t) := by
  intro pins s σ H Q I h
  refine wpAny_Call_Name_kw (ld_glob I hg hm ?_ hdb)
  refine PySem.W.callWith_K (h₀ := X.base) I.ok.mod.kin M.kp (thn (ha pos pins s σ H _ I h) fun us s1 ⟨vs, H1, I1, r, q⟩ => ⟨I1.kIn, ?_⟩) he hpl
  exact run_make M F hr hb hd hx I1 r q
theorem pe_make0 (M : Mk X.K C f) (F : FnOk X.prog X.w X.K X.mg X.base CX k f fd ps sp) (hr : Room (k + 1) X.A) (hg : Gl X x) (hm : X.mg x = some (.ref C)) (hb : Binds X.K fd ps ds) (hd : Vals dvs ds) (hx : Passes CX X E)
    (hdb : (x == ("__debug__" : Str)) = false := by decide) : PE X (.Call (.Name x p) [] [] pos) (tMake C sp dvs E tNil) := by
  intro pins s σ H Q I h
  refine wpAny_Call_Name_kw (ld_glob I hg hm ?_ hdb)
  exact PySem.W.callWith_K0 I.kIn M.kp (run_make (us := []) M F hr hb hd hx I .nil h)
end

/-! ### keywords -/
section
variable {X : Cx} {CX : CXT} {k : Nat} {f C : Addr} {fd : FuncData} {ps ks : List Str} {sp : Sp} {E : XK} {x m : Str} {p pos apos kpos : Pos} {e o : Expr} {es : List Expr} {kws : List Keyword} {te ta : TE} {t tk : TA} {nm : Option Str}
variable {g : List Value → List Value → List Value} {gV : List V → List V → List V}
end

/-! ### a def's body keeps its promise -/
/-- names: the parameters first -/
structure FnScope (N P : List Str) (sc : Scope) : Prop where
  kind : sc.kind = .function
  co : sc.isCoroutine = false
  gen : sc.isGenerator = false
  nd : N.Nodup
  pre : N.take P.length = P
  par : ∀ x ∈ P, sc.names.lookup x = some .local ∨ sc.names.lookup x = some .cell
  nofree : ∀ y ∈ sc.names, y.2 ≠ .free

theorem bindL_out {kindOf : Str → Option NameKind} {x : Str} : ∀ {binds : List (Str × Value)} {m : Str → Option Value}, (∀ v, (x, v) ∉ binds) → bindL kindOf binds m x = m x
  | [], _, _ => rfl
  | (n, v) :: r, m, h => by
    unfold bindL
    rw [bindL_out fun w hw => h w (List.mem_cons_of_mem _ hw)]
    split
    · have : x ≠ n := by rintro rfl; exact h v List.mem_cons_self
      simp [this]
    · rfl
theorem bindC_out {kindOf : Str → Option NameKind} {x : Str} : ∀ {binds : List (Str × Value)} {m : Str → Option Value}, (∀ v, (x, v) ∉ binds) → bindC kindOf binds m x = m x
  | [], _, _ => rfl
  | (n, v) :: r, m, h => by
    unfold bindC
    rw [bindC_out fun w hw => h w (List.mem_cons_of_mem _ hw)]
    split
    · rfl
    · have : x ≠ n := by rintro rfl; exact h v List.mem_cons_self
      simp [this]
theorem bindL_get {kindOf : Str → Option NameKind} {x : Str} {v : Value} : ∀ {P : List Str} {vs : List Value} {i : Nat} {m : Str → Option Value}, P.Nodup → P[i]? = some x → vs[i]? = some v → kindOf x = some .local →
    bindL kindOf (P.zip vs) m x = some v
  | [], _, _, _, _, h, _, _ => by simp at h
  | _ :: _, [], _, _, _, _, h, _ => by simp at h
  | p :: P, w :: vs, 0, m, nd, h1, h2, hk => by
    simp at h1 h2; subst h1; subst h2
    show bindL kindOf ((p, w) :: P.zip vs) m p = _
    unfold bindL
    rw [bindL_out fun v hv => (List.nodup_cons.mp nd).1 (List.of_mem_zip hv).1, if_pos hk]
    simp
  | p :: P, w :: vs, i + 1, m, nd, h1, h2, hk => by
    show bindL kindOf ((p, w) :: P.zip vs) m x = _
    unfold bindL
    exact bindL_get (i := i) (List.nodup_cons.mp nd).2 (by simpa using h1) (by simpa using h2) hk
theorem bindC_get {kindOf : Str → Option NameKind} {x : Str} {v : Value} : ∀ {P : List Str} {vs : List Value} {i : Nat} {m : Str → Option Value}, P.Nodup → P[i]? = some x → vs[i]? = some v → kindOf x ≠ some .local →
    bindC kindOf (P.zip vs) m x = some v
  | [], _, _, _, _, h, _, _ => by simp at h
  | _ :: _, [], _, _, _, _, h, _ => by simp at h
  | p :: P, w :: vs, 0, m, nd, h1, h2, hk => by
    simp at h1 h2; subst h1; subst h2
    show bindC kindOf ((p, w) :: P.zip vs) m p = _
    unfold bindC
    rw [bindC_out fun v hv => (List.nodup_cons.mp nd).1 (List.of_mem_zip hv).1, if_neg hk]
    simp
  | p :: P, w :: vs, i + 1, m, nd, h1, h2, hk => by
    show bindC kindOf ((p, w) :: P.zip vs) m x = _
    unfold bindC
    exact bindC_get (i := i) (List.nodup_cons.mp nd).2 (by simpa using h1) (by simpa using h2) hk

/-- the names' values at the entry -/
def start (N : List Str) (vs : List V) : St := vs.map some ++ List.replicate (N.length - vs.length) none

/-- the context of a def's body, at its entry; an exception leaves the frame, then lies as CX says -/
def cxOf (CX : CXT) (P : Program) (w : World) (K : PySem.W.Frag) (mg : Str → Option Value) (base : Heap) (N : List Str) (qual : Str) (scope : Scope) (f : Addr) (cd : Value) (A : Around) (outer : List Env) (s : Shared) (H : Hp) (E : XK) : Cx where
  prog := P
  w := w
  K := K
  mg := mg
  base := base
  A := A.deeper (envOfC qual scope s.heap.objs.size f cd)
  N := N
  s_0 := s
  H_0 := H
  env := envOfC qual scope s.heap.objs.size f cd
  outer := outer
  stack := envOfC qual scope s.heap.objs.size f cd :: outer
  ex := []
  calm := true
  fn := fun _ => true
  pn := []
  xe := fun e s' => wpAny (model P w) (A.deeper (envOfC qual scope s.heap.objs.size f cd)) (leaving (envOfC qual scope s.heap.objs.size f cd) e) (fun _ s'' => CX outer H s E e s'') (fun e' s'' => CX outer H s E e' s'') s'

theorem cell_has {sc : Scope} {n : Nat} {x : Str} (h : sc.names.lookup x = some .cell) : ∃ c, (cellsFrom n sc.names []).lookup x = some c := by
  have q := PySem.W.cellsFrom_some sc.names n [] (.inl h)
  exact Option.isSome_iff_exists.mp q

theorem inv_start {CX : CXT} {P : Program} {w : World} {K : PySem.W.Frag} {mg : Str → Option Value} {base : Heap} {N ps : List Str} {qual : Str} {scope : Scope} {f : Addr} {cd : Value} {A : Around} {outer : List Env} {s s1 : Shared} {H : Hp} {E : XK} {us : List Value} {vs : List V}
    (S : FnScope N ps scope) (hd : A.handled = none) (e0 : Env0 P w K mg base A outer s H) (hl : vs.length = ps.length) (r : Vals vs us)
    (x : InCallC s s.heap.objs.size (bindL (envOfC qual scope s.heap.objs.size f cd).kindOf (ps.zip us) fun _ => none) (cellsFrom (s.heap.objs.size + 1) scope.names []) (bindC (envOfC qual scope s.heap.objs.size f cd).kindOf (ps.zip us) fun _ => none) s1) :
    Inv (cxOf CX P w K mg base N qual scope f cd A outer s H E) [] (start N vs) H s1 := by
  have hpl : ps.length ≤ N.length := by have := congrArg List.length S.pre; rw [List.length_take] at this; omega
  obtain ⟨h1, tk, rfl, hk⟩ := x.done
  have noA : ∀ b : Addr, b ∉ (cxOf CX P w K mg base N qual scope f cd A outer s H E).ex := fun b z => absurd (show b ∈ ([] : List Addr) from z) (by simp)
  refine ⟨⟨e0.mod, S.kind, rfl, rfl, Nat.le_refl _, fun y z c h1 h2 => ?_, fun y hy => ?_, fun y c _ h => ?_, fun _ => hd, Around.frames_deeper e0.frames, .inr ⟨rfl, rfl⟩, fun b z => absurd z (noA b), e0.bs, e0.bsz, fun b _ _ => noA b, fun b z => absurd z (noA b), e0.funs, e0.frf⟩,
    rfl, e0.bare, Un.kept hk, ⟨_, x.toInCall.ns, fun i y v h1 h2 h3 => ?_⟩, fun y c h => ⟨_, x.cell y c h⟩, e0.hok.fresh (Nat.le_refl _), fun y c h => ?_, fun p hp => absurd (show p ∈ ([] : List (Addr × Obj)) from hp) (by simp), e0.hok.kept hk, ?_⟩
  · exact name_of_addr x.apart (PySem.mem_of_lookup h1) (PySem.mem_of_lookup h2)
  · have hy : scope.names.lookup y = some .cell ∨ scope.names.lookup y = some .free := hy
    rcases hy with hy | hy
    · exact cell_has hy
    · exact absurd rfl (S.nofree _ (PySem.mem_of_lookup hy))
  · exact Nat.le_of_lt (x.above y c (PySem.mem_of_lookup h))
  · have hi : i < vs.length := by
      unfold start at h2
      by_cases hi : i < vs.length
      · exact hi
      · rw [List.getElem?_append_right (by simpa using hi)] at h2
        rw [List.getElem?_replicate] at h2
        split at h2 <;> cases h2
    have ha : vs[i]? = some v := by
      unfold start at h2
      rw [List.getElem?_append_left (by simpa using hi), List.getElem?_map] at h2
      cases e : vs[i]? with
      | none => rw [e] at h2; cases h2
      | some a => rw [e] at h2; cases h2; rfl
    obtain ⟨u, hu, rv⟩ := r.get ha
    have hp : ps[i]? = some y := by
      rw [← S.pre, List.getElem?_take_of_lt (by omega)]; exact h1
    have ndP : ps.Nodup := by rw [← S.pre]; exact S.nd.sublist (List.take_sublist _ _)
    refine ⟨u, rv, ?_⟩
    rcases S.par y (List.mem_of_getElem? hp) with k | k
    · exact .inl ⟨k, bindL_get ndP hp hu k⟩
    · obtain ⟨c, e⟩ := cell_has (n := s.heap.objs.size + 1) k
      refine .inr ⟨.inl k, c, e, ?_⟩
      have q := x.cell y c e
      rw [bindC_get ndP hp hu (by show scope.names.lookup y ≠ _; rw [k]; decide)] at q
      exact q
  · exact e0.hok.fresh (Nat.le_of_lt (x.above y c (PySem.mem_of_lookup h)))
  · unfold start
    show _ = N.length
    rw [List.length_append, List.length_map, List.length_replicate]
    omega

/-- THE RULE: a def (or a method) of the text, by its body. The body's reading t is chosen for each entry; it is run at the parameters' values -/
theorem fn_of {CX : CXT} {P : Program} {w : World} {K : PySem.W.Frag} {mg : Str → Option Value} {base : Heap} {k : Nat} {f : Addr} {name qual : Str} {params : Arguments} {body : List Stmt} {scope : Scope} {dV kV doc pm cdv ct oc : Value} {an od : Option Addr}
    {osl : Array (Option Value)} {N ps : List Str} {sp : Sp} (lk : K.lookup f = some ⟨oc, od, .func (PySem.W.fnOf name qual params body scope dV kV doc pm an cdv ct), osl⟩) (hcd : PySem.W.codeIn K cdv qual = true) (S : FnScope N ps scope)
    (len : ∀ vs H Q E, sp vs H Q E → vs.length = ps.length)
    (hbody : ∀ (A : Around) (outer : List Env) (s : Shared) (H : Hp) (vs : List V) (Q : VK) (E : XK), Room k (A.deeper (envOfC qual scope s.heap.objs.size f cdv)) → sp vs H Q E →
      ∃ t, PSs (cxOf CX P w K mg base N qual scope f cdv A outer s H E) body t ∧ t { nx := fun _ H' => Q .non H', rt := Q } (start N vs) H) :
    FnOk P w K mg base CX (k + 1) f (PySem.W.fnOf name qual params body scope dV kV doc pm an cdv ct) ps sp := by
  refine ⟨len, fun A outer s H args us vs Q E hr e0 hb r hsp => ?_⟩
  have hl := len _ _ _ _ hsp
  have KX : K.In s.heap := e0.mod.kin.keeps fun b o e => (e0.bs b o e).1
  have lim : s.heap.NoLimit := e0.mod.nolimit.keeps fun b o e => (e0.bs b o e).1
  have hkind : ∀ y ∈ ps.zip us, scope.names.lookup y.1 = some .local ∨ (scope.names.lookup y.1 = some .cell ∧ ((cellsFrom (s.heap.objs.size + 1) scope.names []).lookup y.1).isSome = true) := fun ⟨n, v⟩ hy => by
    rcases S.par n (List.of_mem_zip hy).1 with q | q
    · exact .inl q
    · exact .inr ⟨q, PySem.W.cellsFrom_some _ _ _ (.inl q)⟩
  refine codeAny_call_function hr.depth (KX _ _ lk) rfl S.co S.gen rfl (PySem.W.codeRec_of KX hcd) (hb _ _ _ _ ?_)
  refine wpAny_newFunctionEnv_cells S.kind hkind fun env he s1 x => ?_
  subst he
  refine ⟨lim.keeps x.toInCall.keep, codeAny_func ?_⟩
  obtain ⟨t, ht, hq⟩ := hbody A outer s H vs Q E (hr.deeper _) hsp
  have I : Inv (cxOf CX P w K mg base N qual scope f cdv A outer s H E) [] (start N vs) H s1 := inv_start S hr.hd e0 hl r x
  refine wpAny_mono (ht [] s1 (start N vs) H _ I hq) (fun fl s' hs => ?_) fun e s' hs => hs
  have fin : ∀ {σ' : St} {H' : Hp} {v : V} {u : Value}, Inv (cxOf CX P w K mg base N qual scope f cdv A outer s H E) [] σ' H' s' → RelV v u → Q v H' → CE outer P w H s Q u s' :=
    fun {σ' H' v u} J rv q => ⟨v, H', J.os, J.bare, J.base, J.hok, rv, q⟩
  cases fl with
  | ret u =>
    obtain ⟨v, σ', H', J, rv, q⟩ := hs
    exact fin J rv q
  | next =>
    obtain ⟨σ', H', J, q⟩ := hs
    exact fin (v := V.non) (u := Value.none) J rfl q
  | brk =>
    obtain ⟨_, _, _, q⟩ := hs
    exact False.elim q
  | cont =>
    obtain ⟨_, _, _, q⟩ := hs
    exact False.elim q
end L2

namespace L2
open PySem PySem.Spec PyProof.Rows
section
variable {X : Cx} {x : Str} {p pos : Pos} {e : Expr} {es : List Expr} {t : TA} {id T : String} {r : List V → Hp → VK → Prop}

def tCB (r : List V → Hp → VK → Prop) (t : TA) : TE := fun σ H Q => t σ H fun vs H1 => r vs H1 Q
/-- f(e, ..), f a built-in function -/
theorem pe_callB (hc : CallR X (.builtin id) r) (hg : Gl X x) (hm : X.mg x = none) (hv : bootBuiltins x = some (.builtin id)) (ha : PA X (e :: es) t) (hn : x ≠ "__name__" := by decide) (hdb : (x == ("__debug__" : Str)) = false := by decide)
    (he : starEach (e :: es) X.env = (false, eval e X.env) :: starEach es X.env := by rfl) (hpl : (backTo pos (starEach es X.env)).any (·.1) = false := by rfl) : PE X (.Call (.Name x p) (e :: es) [] pos) (tCB r t) := by
  intro pins s σ H Q I h
  refine wpAny_Call_Name_kw (ld_blt I hg hm hv ?_ hn hdb)
  exact PyProof.Rows.callWith_builtin1 (thn (ha pos pins s σ H _ I h) fun us s1 ⟨vs, H1, I1, r1, q1⟩ => hc pins s1 σ H1 vs us Q I1 r1 q1) he hpl
/-- T(e, ..), T a built-in type -/
theorem pe_callTy (hc : CallR X (.type T) r) (hg : Gl X x) (hm : X.mg x = none) (hv : bootBuiltins x = some (.type T)) (ha : PA X (e :: es) t) (hn : x ≠ "__name__" := by decide) (hdb : (x == ("__debug__" : Str)) = false := by decide)
    (he : starEach (e :: es) X.env = (false, eval e X.env) :: starEach es X.env := by rfl) (hpl : (backTo pos (starEach es X.env)).any (·.1) = false := by rfl) : PE X (.Call (.Name x p) (e :: es) [] pos) (tCB r t) := by
  intro pins s σ H Q I h
  refine wpAny_Call_Name_kw (ld_blt I hg hm hv ?_ hn hdb)
  exact PyProof.Rows.callWith_type1 (thn (ha pos pins s σ H _ I h) fun us s1 ⟨vs, H1, I1, r1, q1⟩ => hc pins s1 σ H1 vs us Q I1 r1 q1) he hpl
end
end L2

namespace HT
open PySem PyProof.Rows

section
open PySem.SeqAt
open PySem.AutoSeq1 (wpAny_loadPart')
open PySem.MeetsSeq PySem.MeetsSeq2 PySem.MeetsSeq3

end

section
variable {prog : Program} {w : World} {A : Around} {E : Value → Shared → Prop} {s : Shared}

/-! ### t[a:b], not the whole -/
/-- a slice's bound as a place among n (d where it is left out) -/
def sIx (n d : Nat) : Option Int → Nat
  | none => d
  | some v => if v < 0 then (v + (n : Int)).toNat else min v.toNat n
theorem sIx_none (n d : Nat) : sIx n d none = d := rfl
theorem sIx_nat (n d k : Nat) : sIx n d (some (k : Int)) = min k n := by
  show (if (k : Int) < 0 then ((k : Int) + (n : Int)).toNat else min (k : Int).toNat n) = min k n
  rw [if_neg (by omega), Int.toNat_natCast]
end
end HT

namespace L2
open PySem PySem.Spec PyProof.Rows

/-! ### the parts of a slice -/
abbrev TO := St → Hp → (Option Int → Hp → Prop) → Prop
/-- a slice's part (left out, or an int) -/
def PO (X : Cx) (e : Option Expr) (t : TO) : Prop :=
  ∀ (pins : List (Addr × Obj)) (s : Shared) (σ : St) (H : Hp) (Q : Option Int → Hp → Prop), Inv X pins σ H s → t σ H Q →
    wpAny (model X.prog X.w) X.A (evalPart e X.env) (fun u s' => ∃ o H', Inv X pins σ H' s' ∧ IsPart u o ∧ Q o H') X.xe s
def tNoPart : TO := fun _ H Q => Q none H
def tPart (t : TE) : TO := fun σ H Q => t σ H fun x H1 => ∃ i, x = .int i ∧ Q (some i) H1

section
variable {X : Cx} {e : Expr} {te : TE} {lo hi : Option Expr} {tl th : TO} {pos p2 : Pos}

theorem po_none : PO X none tNoPart := by
  intro pins s σ H Q I h
  rw [evalPart_none]
  exact wpAny_pure ⟨none, H, I, .none, h⟩
theorem po_some (h : PE X e te) : PO X (some e) (tPart te) := by
  intro pins s σ H Q I hw
  rw [evalPart_some]
  refine thn (h pins s σ H _ I hw) fun u s1 ⟨x, H1, I1, r1, q1⟩ => ?_
  obtain ⟨i, rfl, q⟩ := q1
  obtain ⟨t, rfl⟩ := r1
  exact ⟨some i, H1, I1, .int i t, q⟩

/-- what a slice of a value is, by values: the slice object stands at sl -/
def SlR (X : Cx) (r : V → Option Int → Option Int → Hp → VK → Prop) : Prop :=
  ∀ (pins : List (Addr × Obj)) (s : Shared) (σ : St) (H : Hp) (x : V) (v vl vu : Value) (lo hi : Option Int) (sl : Addr) (Q : VK), Inv X pins σ H s → RelV x v → s.heap.IsSliceOf sl vl vu .none → IsPart vl lo → IsPart vu hi → r x lo hi H Q →
    ∃ T id, typeLookup (.type T) "__getitem__" = pure (some (.builtin id)) ∧ s.TypeIs v T ∧ wpAny (model X.prog X.w) X.A (getItem v (.ref sl)) (EP X pins σ Q) X.xe s
def tSl (r : V → Option Int → Option Int → Hp → VK → Prop) (te : TE) (tl th : TO) : TE := fun σ H Q => te σ H fun x H1 => tl σ H1 fun l H2 => th σ H2 fun u H3 => r x l u H3 Q
/-- a[lo:hi], any a -/
theorem pe_slice {r : V → Option Int → Option Int → Hp → VK → Prop} (hr : SlR X r) (he : PE X e te) (hl : PO X lo tl) (hu : PO X hi th) : PE X (.Subscript e (.Slice lo hi none p2) pos) (tSl r te tl th) := by
  intro pins s σ H Q I h
  refine Subscript_ (thn (he pins s σ H _ I h) fun v s1 ⟨x, H1, I1, r1, q1⟩ => ?_)
  refine wpAny_Slice (thn (hl pins s1 σ H1 _ I1 q1) fun vl s2 ⟨l, H2, I2, pl, q2⟩ => thn (hu pins s2 σ H2 _ I2 q2) fun vu s3 ⟨u, H3, I3, pu, q3⟩ => ?_)
  rw [evalPart_none]
  refine wpAny_pure ?_
  have I4 : Inv X pins σ H3 { s3 with heap := s3.heap.push { cls := .type "slice", data := .fields #[vl, vu, .none] } } := I3.kept (t' := s3.toks) fun b ob q => Heap.get?_push_of_some _ q
  obtain ⟨T, id, hT, ht, hg⟩ := hr pins { s3 with heap := s3.heap.push { cls := .type "slice", data := .fields #[vl, vu, .none] } } σ H3 x v vl vu l u s3.heap.objs.size Q I4 r1 (Heap.IsSliceOf.new ..) pl pu q3
  show wpAny (model X.prog X.w) X.A (subscriptTail e (.Slice lo hi none p2) v (.ref s3.heap.objs.size)) (EP X pins σ Q) X.xe { s3 with heap := s3.heap.push { cls := .type "slice", data := .fields #[vl, vu, .none] } }
  exact tail_any (ops := [.ref s3.heap.objs.size, v]) ht hT hg (by with_unfolding_all rfl)

/-- the items of xs[lo:hi] -/
def cutV (xs : List V) (lo hi : Option Int) : List V := (xs.drop (HT.sIx xs.length 0 lo)).take (HT.sIx xs.length xs.length hi - HT.sIx xs.length 0 lo)
theorem cutV_length (xs : List V) (lo hi : Option Int) : (cutV xs lo hi).length ≤ xs.length := by
  unfold cutV
  rw [List.length_take, List.length_drop]
  omega
/-! ### t < u, t + u -/
end
end L2

namespace L2
open PySem PySem.Spec PyProof.Rows

/-! ### places -/
/-- the place that an index of any sign means -/
def ixN (n : Nat) (i : Int) : Option Nat := if 0 ≤ i then (if i < n then some i.toNat else none) else if -(n : Int) ≤ i then some (i + n).toNat else none
def atI {α : Type} (xs : List α) (i : Int) : Option α := (ixN xs.length i).bind fun j => xs[j]?
theorem ixN_seq {n : Nat} {i : Int} {j : Nat} (h : ixN n i = some j) : seqIndex? i n = some j ∧ j < n ∧ -(n : Int) ≤ i ∧ i < n := by
  unfold ixN at h
  by_cases h0 : 0 ≤ i
  · rw [if_pos h0] at h
    by_cases h1 : i < n
    · rw [if_pos h1] at h
      have e : i.toNat = j := Option.some.inj h
      exact ⟨by rw [seqIndex_of h0 h1, e], by omega, by omega, h1⟩
    · rw [if_neg h1] at h; cases h
  · rw [if_neg h0] at h
    by_cases h1 : -(n : Int) ≤ i
    · rw [if_pos h1] at h
      have e : (i + n).toNat = j := Option.some.inj h
      exact ⟨by rw [seqIndex_neg (by omega) h1, e], by omega, h1, by omega⟩
    · rw [if_neg h1] at h; cases h
theorem atI_get {α : Type} {xs : List α} {i : Int} {v : α} (h : atI xs i = some v) : ∃ j, seqIndex? i xs.length = some j ∧ xs[j]? = some v ∧ j < xs.length ∧ -(xs.length : Int) ≤ i ∧ i < xs.length := by
  unfold atI at h
  cases e : ixN xs.length i with
  | none => rw [e] at h; cases h
  | some j =>
    rw [e] at h
    obtain ⟨h1, h2, h3, h4⟩ := ixN_seq e
    exact ⟨j, h1, h, h2, h3, h4⟩
theorem atI_nat {α : Type} {xs : List α} {j : Nat} {v : α} (h : xs[j]? = some v) : atI xs (j : Int) = some v := by
  have hj : j < xs.length := (List.getElem?_eq_some_iff.mp h).1
  have e : ixN xs.length (j : Int) = some j := by
    unfold ixN
    rw [if_pos (by omega), if_pos (by omega)]; simp
  unfold atI; rw [e]; exact h
theorem atI_last {α : Type} (xs : List α) (v : α) : atI (xs ++ [v]) (-1) = some v := by
  have hl : (xs ++ [v]).length = xs.length + 1 := by simp
  have e : ixN (xs ++ [v]).length (-1) = some xs.length := by
    unfold ixN
    rw [hl, if_neg (by decide), if_pos (by omega)]
    congr 1
    omega
  unfold atI
  rw [e]
  show (xs ++ [v])[xs.length]? = some v
  simp

/-! ### what may be subscripted -/
/-- what stands as an index of a plain subscript -/
def PlainIx (b : Expr) : Prop := ∀ o i, subscripted b false o i = operate [o, i] (getItem o i)
/-- a subscript by values -/
def IxR (X : Cx) (r : R2) : Prop :=
  ∀ (value slice : Expr) (pins : List (Addr × Obj)) (s : Shared) (σ : St) (H : Hp) (x y : V) (v u : Value) (Q : VK), Inv X pins σ H s → RelV x v → RelV y u → r x y H Q →
    subscripted slice false v u = operate [v, u] (getItem v u) → wpAny (model X.prog X.w) X.A (subscriptTail value slice v u) (EP X pins σ Q) X.xe s
/-- a call of a builtin's method by values: the receiver, the arguments -/
def MtR (X : Cx) (id : String) (r : V → List V → Hp → VK → Prop) : Prop :=
  ∀ (pins : List (Addr × Obj)) (s : Shared) (σ : St) (H : Hp) (x : V) (xs : List V) (v : Value) (us : List Value) (Q : VK), Inv X pins σ H s → RelV x v → Vals xs us → r x xs H Q →
    wpAny (model X.prog X.w) X.A (call (.builtin id) (v :: us)) (EP X pins σ Q) X.xe s
section
variable {X : Cx} {a b : Expr} {ta tb : TE} {pos : Pos}
/-- a[b] -/
theorem pe_ix {r : R2} (hr : IxR X r) (ha : PE X a ta) (hb : PE X b tb) (hs : PlainIx b) : PE X (.Subscript a b pos) (tOp r ta tb) := by
  intro pins s σ H Q I h
  exact Subscript_ (binT ha hb I h fun v u s2 x y H2 I2 rx ry q => hr a b pins s2 σ H2 x y v u Q I2 rx ry q (hs _ _))

def rIxL (K : PySem.W.Frag) : R2 := fun x y H Q => ∃ p xs i v, x = .ref p ∧ y = .int i ∧ SqL K H p xs ∧ atI xs i = some v ∧ Q v H
def rIxT (K : PySem.W.Frag) : R2 := fun x y H Q => ∃ p xs i v, x = .ref p ∧ y = .int i ∧ SqT K H p xs ∧ atI xs i = some v ∧ Q v H
theorem ix_list : IxR X (rIxL X.K) := by
  intro value slice pins s σ H x y v u Q I rx ry h hs
  obtain ⟨p, xs, i, z, rfl, rfl, hq, he, q⟩ := h
  cases rx
  obtain ⟨t, rfl⟩ := ry
  obtain ⟨its, r, pl, hz⟩ := I.list hq
  obtain ⟨j, h1, h2, h3, h4, h5⟩ := atI_get he
  obtain ⟨w, ew, rw'⟩ := r.get h2
  have hl := r.length
  have hn := line63
  have fin : EP X pins σ Q w s := ⟨z, H, I, rw', q⟩
  by_cases h0 : 0 ≤ i
  · have hj : i.toNat = j := by
      rw [seqIndex_of h0 h5] at h1
      exact Option.some.inj h1
    exact item_listR pl.isList h0 (by omega) (by rw [hj]; simpa using ew) fin hs
  · have hj : (i + (its.toArray.size : Int)).toNat = j := by
      rw [seqIndex_neg (by omega) h4] at h1
      rw [List.size_toArray, ← hl]
      exact Option.some.inj h1
    exact subscriptTail_builtinR (x := w) pl.isList.typeIs slot_list_getitem.lookup
      (wpAny_getItem_list_neg (Q := fun r s' => r = w ∧ EP X pins σ Q r s') pl.isList (by omega) (by rw [List.size_toArray] <;> omega) (by omega) (by rw [hj]; simpa using ew) ⟨rfl, fin⟩) hs
theorem ix_tup : IxR X (rIxT X.K) := by
  intro value slice pins s σ H x y v u Q I rx ry h hs
  obtain ⟨p, xs, i, z, rfl, rfl, hq, he, q⟩ := h
  cases rx
  obtain ⟨t, rfl⟩ := ry
  obtain ⟨its, r, pl, hz⟩ := I.tuple hq
  obtain ⟨j, h1, h2, h3, h4, h5⟩ := atI_get he
  obtain ⟨w, ew, rw'⟩ := r.get h2
  have hl := r.length
  have hn := line63
  have fin : EP X pins σ Q w s := ⟨z, H, I, rw', q⟩
  exact subscriptTail_builtinR (x := w) pl.typeIs slot_tuple_getitem.lookup
    (getItem_tuple (j := j) (Q := fun r s' => r = w ∧ EP X pins σ Q r s') pl (by omega) (by omega) (by rw [List.size_toArray, ← hl]; exact h1) (by simpa using ew) ⟨rfl, fin⟩) hs
/-! ### xs[i] = v, any sign -/
/-- the list's object behind a store -/
theorem mapSeq_set (its : List Value) (n j : Nat) (u : Value) : Obj.mapSeq (·.setIfInBounds j u) { cls := .type "list", data := .seq its.toArray n } = { cls := .type "list", data := .seq (its.set j u).toArray n } := by
  simp [Obj.mapSeq]
theorem Inv.lst {pins : List (Addr × Obj)} {σ : St} {H : Hp} {s : Shared} {p : Addr} {xs : List V} (I : Inv X pins σ H s) (h : H p = some (.lst xs)) :
    ∃ (its : List Value) (n : Nat), Vals xs its ∧ s.heap.get? p = some { cls := .type "list", data := .seq its.toArray n } ∧ xs.length ≤ sizeLine := by
  obtain ⟨z, its, n, r, e⟩ := I.hok p _ h
  exact ⟨its, n, r, e, z⟩
/-- the list at p is written by an update of its object -/
theorem Inv.lstUpd {pins : List (Addr × Obj)} {σ : St} {H : Hp} {s : Shared} {p : Addr} {xs ys : List V} {its its' : List Value} {n n' : Nat} {f : Obj → Obj} (I : Inv X pins σ H s) (h : H p = some (.lst xs))
    (ho : s.heap.get? p = some { cls := .type "list", data := .seq its.toArray n }) (hf : f { cls := .type "list", data := .seq its.toArray n } = { cls := .type "list", data := .seq its'.toArray n' }) (r : Vals ys its') (hz : ys.length ≤ sizeLine) (t : Nat) :
    Inv X pins σ (upd H p (.lst ys)) { s with heap := s.heap.update p f, toks := t } := by
  have e : (s.heap.update p f).get? p = some { cls := .type "list", data := .seq its'.toArray n' } := by
    rw [Heap.get?_update_self f ho (by rw [hf] <;> rfl), hf]
  refine I.write (x := p) (e := p) (by rw [h]; trivial) (.inl rfl) (fun b u hb q => (Heap.get?_update_other _ _ (Ne.symm hb)).trans q) ⟨_, e⟩ ?_
  exact ⟨hz, its', n', r, e⟩
def rSetL : V → V → V → Hp → (Hp → Prop) → Prop := fun o i v H Q => ∃ p xs k j, o = .ref p ∧ i = .int k ∧ H p = some (.lst xs) ∧ ixN xs.length k = some j ∧ Q (upd H p (.lst (xs.set j v)))
theorem set_list : PSet X rSetL := by
  intro pins s σ H o i v ov iv u Q I ro ri rv h
  obtain ⟨p, xs, k, j, rfl, rfl, hp, hj, q⟩ := h
  cases ro
  obtain ⟨t, rfl⟩ := ri
  obtain ⟨its, n, r, ho, hz⟩ := I.lst hp
  obtain ⟨h1, h2, h3, h4⟩ := ixN_seq hj
  have hl := r.length
  have hn := line63
  have I' : Inv X pins σ (upd H p (.lst (xs.set j v))) { s with heap := s.heap.update p (Obj.mapSeq (·.setIfInBounds j u)) } :=
    I.lstUpd hp ho (mapSeq_set its n j u) (r.set rv j) (by rw [List.length_set]; exact hz) s.toks
  by_cases h0 : 0 ≤ k
  · have hk : k.toNat = j := by
      rw [seqIndex_of h0 h4] at h1
      exact Option.some.inj h1
    exact PySem.W.ki_setAt ho h0 (by omega) (by rw [List.size_toArray, ← hl]; exact h4) (by rw [hk]; exact ⟨_, I', q⟩)
  · have hk : (k + (its.toArray.size : Int)).toNat = j := by
      rw [seqIndex_neg (by omega) h3] at h1
      rw [List.size_toArray, ← hl]
      exact Option.some.inj h1
    exact PySem.W.ki_setBack ho (by omega) (by rw [List.size_toArray, ← hl]; exact h3) (by omega) (by rw [hk]; exact ⟨_, I', q⟩)

/-! ### slices -/
theorem slice_bounds (lo hi : Option Int) (n : Nat) : (sliceBounds lo hi none n).1 = ((HT.sIx n 0 lo : Nat) : Int) ∧ (sliceBounds lo hi none n).2.1 = ((HT.sIx n n hi : Nat) : Int) ∧ (sliceBounds lo hi none n).2.2 = 1 := by
  refine ⟨?_, ?_, rfl⟩
  · cases lo with
    | none => simp [sliceBounds, HT.sIx]
    | some i =>
      simp only [sliceBounds, HT.sIx, Option.getD_none, show (1 : Int) > 0 by decide, if_true]
      by_cases h : i < 0
      · simp only [h, if_true] <;> omega
      · simp only [h, if_false] <;> omega
  · cases hi with
    | none => simp [sliceBounds, HT.sIx]
    | some i =>
      simp only [sliceBounds, HT.sIx, Option.getD_none, show (1 : Int) > 0 by decide, if_true]
      by_cases h : i < 0
      · simp only [h, if_true] <;> omega
      · simp only [h, if_false] <;> omega
theorem slicePick_cut (its : List Value) (lo hi : Option Int) : slicePick its.toArray lo hi none = ((its.drop (HT.sIx its.length 0 lo)).take (HT.sIx its.length its.length hi - HT.sIx its.length 0 lo)).toArray := by
  obtain ⟨h1, h2, h3⟩ := slice_bounds lo hi its.toArray.size
  unfold slicePick
  rw [h1, h2, h3]
  simp only [sliceRange_one, pick_run, List.size_toArray] <;> rfl
/-- xs[lo:hi] of a list: a new list -/
def rSlL (K : PySem.W.Frag) : V → Option Int → Option Int → Hp → VK → Prop := fun x lo hi H Q => ∃ a xs, x = .ref a ∧ SqL K H a xs ∧ ∀ p, H p = none → Q (.ref p) (upd H p (.lst (cutV xs lo hi)))
theorem sl_list : SlR X (rSlL X.K) := by
  intro pins s σ H x v vl vu lo hi sl Q I rx hs pl pu h
  obtain ⟨a, xs, rfl, hx, q⟩ := h
  cases rx
  obtain ⟨its, r, ht, hz⟩ := I.list hx
  have hlen := r.length
  refine ⟨"list", _, slot_list_getitem.lookup, ht.isList.typeIs, ?_⟩
  refine wpAny_getItem_list_slice ht.isList hs pl pu .none (by simp) ?_ (by rw [List.size_toArray] <;> omega)
  rw [slicePick_cut, ← hlen]
  refine ⟨.ref s.heap.objs.size, _, I.laid (t' := s.toks) (o := .lst (cutV xs lo hi)) (fun b ob q => Heap.get?_push_of_some _ q) (Nat.le_refl _) ?_, rfl, q _ (I.hok.fresh (Nat.le_refl _))⟩
  exact ⟨Nat.le_trans (cutV_length xs lo hi) hz, _, 0, (r.drop (HT.sIx xs.length 0 lo)).take (HT.sIx xs.length xs.length hi - HT.sIx xs.length 0 lo), Heap.get?_push_size _ rfl⟩

/-! ### in, not in: flat items -/
def flatV : V → Bool
  | .non => true
  | .bl _ => true
  | .int _ => true
  | .str _ => true
  | _ => false
/-- == of flat values -/
def eqV : V → V → Bool
  | .non, .non => true
  | .bl a, .bl b => a == b
  | .bl a, .int b => (if a then 1 else 0) == b
  | .int a, .bl b => a == (if b then 1 else 0)
  | .int a, .int b => a == b
  | .str a, .str b => a == b
  | _, _ => false
theorem eqAt_V {A : Around} {s : Shared} {y x : V} {u v : Value} (ry : RelV y u) (rx : RelV x v) (fy : flatV y = true) (fx : flatV x = true) : SeqAt.EqAt A s u v (eqV y x) := by
  cases y with
  | non =>
    cases ry
    cases x with
    | non => cases rx; exact SeqAt.EqAt.same _
    | bl b => cases rx; exact SeqAt.EqAt.none_bool b
    | int b => obtain ⟨t, rfl⟩ := rx; exact SeqAt.EqAt.none_int b t
    | str b => obtain ⟨t, rfl⟩ := rx; exact SeqAt.EqAt.none_str b t
    | _ => exact absurd (show false = true from fx) Bool.false_ne_true
  | bl a =>
    cases ry
    cases x with
    | non => cases rx; exact SeqAt.EqAt.bool_none a
    | bl b => cases rx; exact SeqAt.EqAt.bool_bool a b
    | int b => obtain ⟨t, rfl⟩ := rx; exact SeqAt.EqAt.bool_int a b t
    | str b => obtain ⟨t, rfl⟩ := rx; exact SeqAt.EqAt.bool_str a b t
    | _ => exact absurd (show false = true from fx) Bool.false_ne_true
  | int a =>
    obtain ⟨t', rfl⟩ := ry
    cases x with
    | non => cases rx; exact SeqAt.EqAt.int_none a t'
    | bl b => cases rx; exact SeqAt.EqAt.int_bool a t' b
    | int b => obtain ⟨t, rfl⟩ := rx; exact SeqAt.EqAt.int_int a t' b t
    | str b => obtain ⟨t, rfl⟩ := rx; exact SeqAt.EqAt.int_str a t' b t
    | _ => exact absurd (show false = true from fx) Bool.false_ne_true
  | str a =>
    obtain ⟨t', rfl⟩ := ry
    cases x with
    | non => cases rx; exact SeqAt.EqAt.str_none a t'
    | bl b => cases rx; exact SeqAt.EqAt.str_bool a t' b
    | int b => obtain ⟨t, rfl⟩ := rx; exact SeqAt.EqAt.str_int a t' b t
    | str b => obtain ⟨t, rfl⟩ := rx; exact SeqAt.EqAt.str_str a t' b t
    | _ => exact absurd (show false = true from fx) Bool.false_ne_true
  | _ => exact absurd (show false = true from fy) Bool.false_ne_true
/-- the items' answers, read off the values (a value's own answer does not lean on its token) -/
def eqU (x : V) (u : Value) : Bool := match u with
  | .none => eqV .non x
  | .bool b => eqV (.bl b) x
  | .int i _ => eqV (.int i) x
  | .str z _ => eqV (.str z) x
  | _ => false
theorem eqU_of {x y : V} {u : Value} (r : RelV y u) (f : flatV y = true) : eqU x u = eqV y x := by
  cases y with
  | non => cases r; rfl
  | bl b => cases r; rfl
  | int i => obtain ⟨t, rfl⟩ := r; rfl
  | str z => obtain ⟨t, rfl⟩ := r; rfl
  | _ => exact absurd (show false = true from f) Bool.false_ne_true
theorem any_eqU {x : V} : ∀ {xs : List V} {us : List Value}, Vals xs us → xs.all flatV = true → us.any (eqU x) = xs.any fun y => eqV y x
  | _, _, .nil, _ => rfl
  | y :: xs, u :: us, .cons r t, f => by
    rw [List.all_cons, Bool.and_eq_true] at f
    rw [List.any_cons, List.any_cons, eqU_of r f.1, any_eqU t f.2]
theorem mem_eqAt {A : Around} {s : Shared} {x : V} {v : Value} (rx : RelV x v) (fx : flatV x = true) : ∀ {xs : List V} {us : List Value}, Vals xs us → xs.all flatV = true → ∀ u ∈ us, SeqAt.EqAt A s u v (eqU x u)
  | _, _, .nil, _ => fun u hu => by cases hu
  | y :: xs, u :: us, .cons r t, f => fun u' hu => by
    rw [List.all_cons, Bool.and_eq_true] at f
    rcases List.mem_cons.mp hu with rfl | hu
    · rw [eqU_of r f.1]; exact eqAt_V r rx f.1 fx
    · exact mem_eqAt rx fx t f.2 u' hu
def inV (x : V) (xs : List V) : Bool := xs.any fun y => eqV y x
/-- x in a list or tuple of flat items -/
def rIn (K : PySem.W.Frag) (neg : Bool) : R2 := fun x y H Q => ∃ p xs, y = .ref p ∧ (SqL K H p xs ∨ SqT K H p xs) ∧ flatV x = true ∧ xs.all flatV = true ∧ Q (.bl (if neg then !inV x xs else inV x xs)) H
theorem op_in_seq : OpR X (compareOp .In) (rIn X.K false) := by
  intro pins s σ H x y v u Q I rx ry h
  obtain ⟨p, xs, rfl, hq, fx, fs, q⟩ := h
  cases ry
  rcases hq with hq | hq
  · obtain ⟨its, r, pl, hz⟩ := I.list hq
    refine SeqAt.in_listAt (eqU x) pl.isList (fun w hw => mem_eqAt rx fx r fs w (by simpa using hw)) ⟨.bl _, H, I, rfl, ?_⟩
    rw [show its.toArray.any (eqU x) = its.any (eqU x) by simp, any_eqU r fs]
    exact q
  · obtain ⟨its, r, pl, hz⟩ := I.tuple hq
    refine SeqAt.in_tupleAt (eqU x) pl (fun w hw => mem_eqAt rx fx r fs w (by simpa using hw)) ⟨.bl _, H, I, rfl, ?_⟩
    rw [show its.toArray.any (eqU x) = its.any (eqU x) by simp, any_eqU r fs]
    exact q
theorem op_notIn_seq : OpR X (compareOp .NotIn) (rIn X.K true) := by
  intro pins s σ H x y v u Q I rx ry h
  obtain ⟨p, xs, rfl, hq, fx, fs, q⟩ := h
  cases ry
  rcases hq with hq | hq
  · obtain ⟨its, r, pl, hz⟩ := I.list hq
    refine SeqAt.notIn_listAt (eqU x) pl.isList (fun w hw => mem_eqAt rx fx r fs w (by simpa using hw)) ⟨.bl _, H, I, rfl, ?_⟩
    rw [show its.toArray.any (eqU x) = its.any (eqU x) by simp, any_eqU r fs]
    exact q
  · obtain ⟨its, r, pl, hz⟩ := I.tuple hq
    refine SeqAt.notIn_tupleAt (eqU x) pl (fun w hw => mem_eqAt rx fx r fs w (by simpa using hw)) ⟨.bl _, H, I, rfl, ?_⟩
    rw [show its.toArray.any (eqU x) = its.any (eqU x) by simp, any_eqU r fs]
    exact q
/-! ### len, list(x), tuple(x) of any list or tuple that is read -/
theorem call_len_seq : CallR X (.builtin "len") (fun xs H Q => ∃ p ys, xs = [.ref p] ∧ (SqL X.K H p ys ∨ SqT X.K H p ys) ∧ Q (.int ys.length) H) := by
  intro pins s σ H xs us Q I r h
  obtain ⟨p, ys, rfl, hq, q⟩ := h
  obtain ⟨u, rfl, rx⟩ := vals1 r
  cases rx
  have hn := line63
  rcases hq with hq | hq
  · obtain ⟨its, r', pl, hz⟩ := I.list hq
    have hlen := r'.length
    exact Calls.call_len_list pl.isList (by simp only [List.size_toArray] <;> omega) ⟨.int ys.length, H, I.tok _, ⟨s.toks + 1, by rw [List.size_toArray, hlen]⟩, q⟩
  · obtain ⟨its, r', pl, hz⟩ := I.tuple hq
    have hlen := r'.length
    exact len_tuple pl (by simp only [List.size_toArray] <;> omega) ⟨.int ys.length, H, I.tok _, ⟨s.toks + 1, by rw [List.size_toArray, hlen]⟩, q⟩
theorem call_list_of : CallR X (.type "list") (fun xs H Q => ∃ p ys, xs = [.ref p] ∧ (SqL X.K H p ys ∨ SqT X.K H p ys) ∧ ∀ l, H l = none → Q (.ref l) (upd H l (.lst ys))) := by
  intro pins s σ H xs us Q I r h
  obtain ⟨p, ys, rfl, hq, q⟩ := h
  obtain ⟨u, rfl, rx⟩ := vals1 r
  cases rx
  have fin : ∀ (its : List Value), Vals ys its → ys.length ≤ sizeLine → ∀ (h' : Heap) (c' : Nat), (∀ b o', s.heap.get? b = some o' → h'.get? b = some o') →
      h'.get? s.heap.objs.size = some { cls := .type "list", dict := none, data := .seq its.toArray c', slots := #[] } → EP X pins σ Q (.ref s.heap.objs.size) { s with heap := h' } := fun its r' hz h' c' kp e =>
    ⟨.ref s.heap.objs.size, _, I.laid (t' := s.toks) kp (Nat.le_refl _) (show ObjOk X.prog X.w _ h' _ (.lst ys) from ⟨hz, its, c', r', e⟩), rfl, q _ (I.hok.fresh (Nat.le_refl _))⟩
  rcases hq with hq | hq
  · obtain ⟨its, r', pl, hz⟩ := I.list hq
    have hlen := r'.length
    obtain ⟨o, ho, hc, n, hd⟩ := pl.isList
    exact call_list_seq p (.inl rfl) ho hc hd (fun h' c' kp e => fin its r' hz h' c' kp e) (by simp only [List.size_toArray] <;> omega)
  · obtain ⟨its, r', pl, hz⟩ := I.tuple hq
    have hlen := r'.length
    obtain ⟨o, ho, hc, n, hd⟩ := pl
    exact call_list_seq p (.inr rfl) ho hc hd (fun h' c' kp e => fin its r' hz h' c' kp e) (by simp only [List.size_toArray] <;> omega)
/-! ### the call of a builtin's method: o.m(..) -/
/-- the value is of that builtin type -/
def tyV (K : PySem.W.Frag) (T : String) (x : V) (H : Hp) : Prop := match x with
  | .str _ => T = "str"
  | .int _ => T = "int"
  | .ref p => (T = "list" ∧ ∃ xs, SqL K H p xs) ∨ (T = "tuple" ∧ ∃ o, K.lookup p = some o ∧ o.cls = .type "tuple" ∧ o.dict = none) ∨
      (T = "dict" ∧ ((∃ kvs, H p = some (.dK kvs)) ∨ ∃ kvs, H p = some (.dT kvs))) ∨ (T = "set" ∧ ∃ S n, H p = some (.set S n))
  | _ => False
theorem tyV_is {pins : List (Addr × Obj)} {σ : St} {H : Hp} {s : Shared} {T : String} {x : V} {v : Value} (I : Inv X pins σ H s) (r : RelV x v) (ty : tyV X.K T x H) :
    s.TypeIs v T ∧ ∀ a, v = .ref a → ∃ ob, s.heap.get? a = some ob ∧ ob.dict = none := by
  cases x with
  | str z =>
    obtain ⟨t, rfl⟩ := r
    cases (show T = "str" from ty)
    exact ⟨typeIs_str s z t, fun _ e => nomatch e⟩
  | int i =>
    obtain ⟨t, rfl⟩ := r
    cases (show T = "int" from ty)
    exact ⟨typeIs_int s i t, fun _ e => nomatch e⟩
  | ref p =>
    cases r
    rcases ty with ⟨rfl, xs, hq⟩ | ⟨rfl, o, hk, hc, hd⟩ | ⟨rfl, hk⟩ | ⟨rfl, S, n, hk⟩
    · obtain ⟨its, _, pl, _⟩ := I.list hq
      refine ⟨pl.isList.typeIs, fun a e => ?_⟩
      cases e
      obtain ⟨o, n, e, c, hd, _⟩ := pl
      exact ⟨o, e, hd⟩
    · refine ⟨⟨o, I.kIn p o hk, hc⟩, fun a e => ?_⟩
      cases e
      exact ⟨o, I.kIn _ o hk, hd⟩
    · have z : ∃ o, s.heap.get? p = some o ∧ o.ExactDict := by
        rcases hk with ⟨kvs, hk⟩ | ⟨kvs, hk⟩
        · obtain ⟨_, _, _, _, o, _, _, e, ex, _⟩ := I.hok p _ hk
          exact ⟨o, e, ex⟩
        · obtain ⟨_, _, _, _, o, _, _, e, ex, _⟩ := I.hok p _ hk
          exact ⟨o, e, ex⟩
      obtain ⟨o, e, ex⟩ := z
      refine ⟨⟨o, e, ex.1⟩, fun a e2 => ?_⟩
      cases e2
      exact ⟨o, e, ex.2.1⟩
    · obtain ⟨o, _, _, _, e, ex, _⟩ := I.hok p _ hk
      refine ⟨⟨o, e, ex.1⟩, fun a e2 => ?_⟩
      cases e2
      exact ⟨o, e, ex.2.1⟩
  | _ => exact False.elim ty
def tBM0 (K : PySem.W.Frag) (T : String) (r : V → List V → Hp → VK → Prop) (to : TE) : TE := fun σ H Q => to σ H fun x H1 => tyV K T x H1 ∧ r x [] H1 Q
def tBM (K : PySem.W.Frag) (T : String) (r : V → List V → Hp → VK → Prop) (to : TE) (t : TA) : TE := fun σ H Q => to σ H fun x H1 => tyV K T x H1 ∧ t σ H1 fun xs H2 => r x xs H2 Q
variable {o e : Expr} {es : List Expr} {to : TE} {t : TA} {name : Str} {apos cpos : Pos} {T id : String} {r : V → List V → Hp → VK → Prop}
theorem pe_bm0 (pa : PlainAttrs T) (slot : Slot T name id) (hty : typeOf (.builtin id) = pure (.type "method_descriptor")) (hm : MtR X id r) (ho : PE X o to)
    (hbase : attributeBase o name X.env (eval o X.env) = eval o X.env := by rfl) (hline : (apos.endLine == cpos.line) = true := by rfl) : PE X (.Call (.Attribute o name apos) [] [] cpos) (tBM0 X.K T r to) := by
  intro pins s σ H Q I h
  refine wpAny_Call_method0_late hbase hline (thn (ho pins s σ H _ I h) fun v s1 ⟨x, H1, I1, r1, ty, q1⟩ => ?_)
  obtain ⟨h1, h2⟩ := tyV_is I1 r1 ty
  exact ⟨T, id, pa, slot, hty, h1, h2, Calls.callWith_builtin rfl (PySem.evalArgs_none (hm pins s1 σ H1 x [] v [] Q I1 r1 .nil q1))⟩
theorem pe_bm (pa : PlainAttrs T) (slot : Slot T name id) (hty : typeOf (.builtin id) = pure (.type "method_descriptor")) (hm : MtR X id r) (ho : PE X o to) (ha : PA X (e :: es) t)
    (hbase : attributeBase o name X.env (eval o X.env) = eval o X.env := by rfl)
    (hfew : ((backTo cpos (starEach (e :: es) X.env)).all (fun x => !x.1) && (backToKw cpos (keywordEach [] X.env)).all (fun x => x.1.isSome)
      && decide ((e :: es).length + ([] : List Keyword).length + (if ([] : List Keyword).isEmpty then 0 else 1) < 30)) = true := by rfl)
    (hline : (apos.endLine == cpos.line) = true := by rfl) (hs : starEach (e :: es) X.env = (false, eval e X.env) :: starEach es X.env := by rfl) (hplain : (backTo cpos (starEach es X.env)).any (·.1) = false := by rfl) :
    PE X (.Call (.Attribute o name apos) (e :: es) [] cpos) (tBM X.K T r to t) := by
  intro pins s σ H Q I h
  refine wpAny_Call_method_late hbase hfew hline rfl (thn (ho pins s σ H _ I h) fun v s1 ⟨x, H1, I1, r1, ty, q1⟩ => ?_)
  obtain ⟨h1, h2⟩ := tyV_is I1 r1 ty
  refine ⟨T, id, pa, slot, hty, h1, h2, ?_⟩
  have hA := ha cpos pins s1 σ H1 _ I1 q1
  rw [hs] at hA ⊢
  refine Calls.callWith_builtin (by show (false || (backTo cpos (starEach es X.env)).any (·.1)) = false; rw [hplain] <;> rfl) (Calls.evalArgs_plain ?_)
  exact thn hA fun us s2 ⟨vs, H2, I2, r2, q2⟩ => hm pins s2 σ H2 x vs v us Q I2 r1 r2 q2
/- xs.append(e), list.index on a module's tuple .. are MtR facts of 06m -/
end
end L2

namespace L2
open PySem PySem.Spec PyProof.Rows

def MtM (X : Cx) (id : String) (r : V → List V → Hp → VK → Prop) : Prop :=
  ∀ (pins : List (Addr × Obj)) (s : Shared) (σ : St) (H : Hp) (x : V) (xs : List V) (v : Value) (us : List Value) (Q : VK), Inv X pins σ H s → RelV x v → Vals xs us → r x xs H Q →
    wpAny (model X.prog X.w) X.A (call (.builtin id) (v :: us)) (EP X pins σ Q) X.xe s

/-! ### lists of values -/
theorem Vals.one : ∀ {x : V} {us : List Value}, Vals [x] us → ∃ u, us = [u] ∧ RelV x u
  | _, _, .cons r .nil => ⟨_, rfl, r⟩
theorem Vals.zero : ∀ {us : List Value}, Vals [] us → us = []
  | _, .nil => rfl
theorem Vals.dropLast {xs : List V} {us : List Value} (h : Vals xs us) : Vals xs.dropLast us.dropLast := by
  induction h with
  | nil => exact .nil
  | cons r t ih =>
    cases t with
    | nil => exact .nil
    | cons q t' => exact .cons r ih
theorem erase_last {α : Type} (l : List α) : l.eraseIdx (l.length - 1) = l.dropLast := by
  induction l with
  | nil => rfl
  | cons a r ih =>
    cases r with
    | nil => rfl
    | cons b r =>
      have e : (a :: b :: r).length - 1 = ((b :: r).length - 1) + 1 := by
        have h1 : (a :: b :: r).length = r.length + 2 := rfl
        have h2 : (b :: r).length = r.length + 1 := rfl
        omega
      rw [e, List.eraseIdx_cons_succ, ih]
      all_goals rfl
section
variable {X : Cx} {pins : List (Addr × Obj)} {σ : St} {H : Hp} {s : Shared} {l b : Addr} {xs ys zs : List V}

/-! ### the two steps: a tracked list is rewritten, a new list is laid -/
theorem Inv.lset {its its' : List Value} {n : Nat} {f : Array Value → Array Value} {t' : Nat} (I : Inv X pins σ H s) (hH : H l = some (.lst xs))
    (e : s.heap.get? l = some { cls := .type "list", data := .seq its.toArray n }) (hf : f its.toArray = its'.toArray) (hv : Vals ys its') (hz : ys.length ≤ sizeLine) :
    Inv X pins σ (upd H l (.lst ys)) { s with heap := s.heap.update l (Obj.mapSeq f), toks := t' } := by
  have q := PySem.IsL.update e f
  rw [hf] at q
  refine I.write (x := l) (e := l) (by rw [hH]; exact trivial) (.inl rfl) (fun b' u hb hu => (Heap.get?_update_other s.heap (Obj.mapSeq f) (Ne.symm hb)).trans hu) ⟨_, q⟩ ?_
  exact ⟨hz, its', _, hv, q⟩
theorem Inv.lnew {its : List Value} {t' : Nat} (I : Inv X pins σ H s) (hv : Vals ys its) (hz : ys.length ≤ sizeLine) :
    Inv X pins σ (upd H s.heap.objs.size (.lst ys)) { s with heap := s.heap.push { cls := .type "list", data := .seq its.toArray }, toks := t' } :=
  I.laid (fun _ _ q => Heap.get?_push_of_some _ q) (Nat.le_refl _) ⟨hz, its, 0, hv, Heap.get?_push_size _ rfl⟩
theorem Inv.fresh (I : Inv X pins σ H s) : H s.heap.objs.size = none := I.hok.fresh (Nat.le_refl _)
theorem Inv.lstM (I : Inv X pins σ H s) (hH : H l = some (.lst xs)) : xs.length ≤ sizeLine ∧ ∃ (its : List Value) (n : Nat), Vals xs its ∧ xs.length = its.length ∧ s.heap.get? l = some { cls := .type "list", data := .seq its.toArray n } := by
  obtain ⟨z, its, n, r, e⟩ := I.hok l _ hH
  exact ⟨z, its, n, r, r.length, e⟩

theorem notLongL {n : Nat} (h : n ≤ sizeLine) : Builtin.List.listTooLong n = false := by
  unfold Builtin.List.listTooLong
  exact decide_eq_false (by omega)
end

section
variable {X : Cx}

/-! ### methods -/
def rAppend : V → List V → Hp → VK → Prop := fun x vs H Q => ∃ l xs y, x = .ref l ∧ vs = [y] ∧ H l = some (.lst xs) ∧ xs.length < sizeLine ∧ Q .non (upd H l (.lst (xs ++ [y])))
theorem mt_append : MtM X "list.append" rAppend := by
  intro pins s σ H x vs v us Q I rx rv h
  obtain ⟨l, xs, y, rfl, rfl, hH, hz, q⟩ := h
  cases rx
  obtain ⟨u, rfl, ru⟩ := rv.one
  obtain ⟨z, its, n, r, hl, e⟩ := I.lstM hH
  refine call_meets F.slot_list_append ⟨_, e, rfl⟩ F.entry_list_append (F.args_list_append_2 _ _) (PySem.list_append l its.toArray n u (by rw [List.size_toArray]; omega)) ⟨e, ?_⟩
  refine ⟨.non, _, I.lset (its' := its ++ [u]) hH e (by simp) (r.append (.cons ru .nil)) ?_, rfl, q⟩
  rw [List.length_append, List.length_singleton]
  omega

def rExtend : V → List V → Hp → VK → Prop := fun x vs H Q => ∃ l b xs zs, x = .ref l ∧ vs = [.ref b] ∧ H l = some (.lst xs) ∧ H b = some (.lst zs) ∧ xs.length + zs.length ≤ sizeLine ∧ Q .non (upd H l (.lst (xs ++ zs)))
theorem mt_extend : MtM X "list.extend" rExtend := by
  intro pins s σ H x vs v us Q I rx rv h
  obtain ⟨l, b, xs, zs, rfl, rfl, hH, hB, hz, q⟩ := h
  cases rx
  obtain ⟨u, rfl, ru⟩ := rv.one
  cases ru
  obtain ⟨z, its, n, r, hl, e⟩ := I.lstM hH
  obtain ⟨z2, its2, n2, r2, hl2, e2⟩ := I.lstM hB
  have hsz : its.toArray.size + its2.toArray.size ≤ sizeLine := by rw [List.size_toArray, List.size_toArray]; omega
  have hlong : ¬ (!its.toArray.isEmpty && Builtin.List.listTooLong (its.toArray.size + its2.toArray.size)) = true := by
    rw [notLongL hsz, Bool.and_false]
    exact Bool.false_ne_true
  refine call_meets F.slot_list_extend ⟨_, e, rfl⟩ F.entry_list_extend (F.args_list_extend_2 _ _)
    (AutoSeq1.list_extend_list_list_0 l its.toArray n b its2.toArray n2 hlong (by rw [List.size_toArray]; omega) (by omega)) ⟨e, e2, ?_⟩
  refine ⟨.non, _, I.lset (its' := its ++ its2) hH e (by simp) (r.append r2) ?_, rfl, q⟩
  rw [List.length_append]
  omega

def rPop : V → List V → Hp → VK → Prop := fun x vs H Q => ∃ l xs y, x = .ref l ∧ vs = [] ∧ H l = some (.lst xs) ∧ xs[xs.length - 1]? = some y ∧ Q y (upd H l (.lst xs.dropLast))
theorem mt_pop : MtM X "list.pop" rPop := by
  intro pins s σ H x vs v us Q I rx rv h
  obtain ⟨l, xs, y, rfl, rfl, hH, hy, q⟩ := h
  cases rx
  have hus := rv.zero
  subst hus
  obtain ⟨z, its, n, r, hl, e⟩ := I.lstM hH
  obtain ⟨u, hu, ru⟩ := r.get hy
  have hy' : its.toArray[its.toArray.size - 1]? = some u := by
    show its.toArray[its.length - 1]? = some u
    rw [← Array.getElem?_toList, ← hl]
    exact hu
  refine call_meets F.slot_list_pop ⟨_, e, rfl⟩ F.entry_list_pop (F.args_list_pop_1 _) (MeetsSeq.list_pop_last l its.toArray n u hy' (by rw [List.size_toArray]; omega)) ⟨e, ?_⟩
  refine ⟨y, _, I.lset (its' := its.dropLast) hH e ?_ r.dropLast ?_, ru, q⟩
  · show its.toArray.eraseIdxIfInBounds (its.toArray.size - 1) = its.dropLast.toArray
    rw [List.size_toArray, List.eraseIdxIfInBounds_toArray, erase_last]
  · rw [List.length_dropLast]
    omega

/-! ### list + list, list += list, list * int -/
def rCat : R2 := fun x y H Q => ∃ l b xs zs, x = .ref l ∧ y = .ref b ∧ H l = some (.lst xs) ∧ H b = some (.lst zs) ∧ xs.length + zs.length ≤ sizeLine ∧ ∀ p, H p = none → Q (.ref p) (upd H p (.lst (xs ++ zs)))
theorem op_cat : OpR X (binaryOp .Add) rCat := by
  intro pins s σ H x y v u Q I rx ry h
  obtain ⟨l, b, xs, zs, rfl, rfl, hH, hB, hz, q⟩ := h
  cases rx
  cases ry
  obtain ⟨z, its, n, r, hl, e⟩ := I.lstM hH
  obtain ⟨z2, its2, n2, r2, hl2, e2⟩ := I.lstM hB
  refine PySem.P.add_list e e2 ?_ (by rw [List.size_toArray, List.size_toArray]; omega)
  have ea : its.toArray ++ its2.toArray = (its ++ its2).toArray := by simp
  rw [ea]
  exact ⟨.ref _, _, I.lnew (t' := s.toks) (r.append r2) (by rw [List.length_append]; omega), rfl, q _ I.fresh⟩
/-! ### del xs[i] -/
end

/-! ### xs[a:b] = ys -/
section
variable {prog : Program} {w : World} {A : Around} {E : Value → Shared → Prop} {s : Shared}
end

section
variable {X : Cx}
end
end L2

namespace L2
open PySem PySem.Spec PyProof.Rows

theorem Vals.ints : ∀ {ns : List Int} {us : List Value}, Vals (ns.map V.int) us → IntsAre us ns
  | [], us, h => by
    rw [List.map_nil] at h
    cases h
    exact IntsAre.nil
  | n :: ns, us, h => by
    rw [List.map_cons] at h
    cases h with
    | cons r t =>
      obtain ⟨k, rfl⟩ := r
      exact IntsAre.cons n k (Vals.ints t)
theorem Vals.bls : ∀ {bs : List Bool} {us : List Value}, Vals (bs.map V.bl) us → us = bs.map Value.bool
  | [], us, h => by
    rw [List.map_nil] at h
    cases h
    rfl
  | b :: bs, us, h => by
    rw [List.map_cons] at h
    cases h with
    | cons r t =>
      cases r
      rw [Vals.bls t, List.map_cons]
theorem Vals.ref1 {a : Addr} {us : List Value} (r : Vals [V.ref a] us) : us = [Value.ref a] := by
  cases r with
  | cons r t =>
    cases t
    cases r
    rfl
/-! ### the library's walks over a list of ints, kept objects alone -/
section
variable {prog : Program} {w : World} {A : Around} {E : Value → Shared → Prop} {s : Shared} {l : Addr} {its : List Value} {ns : List Int} {Q : Value → Shared → Prop}
theorem sum_raw (hh : A.handled = none) (hl : s.heap.IsList l its.toArray) (hi : IntsAre its ns)
    (h : ∀ h' tk t', (∀ b o, s.heap.get? b = some o → h'.get? b = some o) → Q (.int ns.sum t') { s with heap := h', toks := tk }) : wpAny (model prog w) A (call (.builtin "sum") [.ref l]) Q E s := by
  obtain ⟨xs, e⟩ := hi.allInts.items
  have hn : numsOf (intItems xs).toList = ns := by rw [← e]; exact hi.numsOf
  rw [nums_intItems] at hn
  rw [e] at hl
  refine PySem.sum_intListG hh hl fun h' tk t' hk => ?_
  have := h h' tk t' hk
  rw [preSum_eq, List.take_of_length_le (by simp), hn]; exact this
theorem min_raw (hh : A.handled = none) (hl : s.heap.IsList l its.toArray) (hi : IntsAre its ns) (hne : 0 < ns.length)
    (h : ∀ h' tk M t', (∀ b o, s.heap.get? b = some o → h'.get? b = some o) → M ∈ ns → (∀ a, a ∈ ns → M ≤ a) → Q (.int M t') { s with heap := h', toks := tk }) : wpAny (model prog w) A (call (.builtin "min") [.ref l]) Q E s := by
  obtain ⟨xs, e⟩ := hi.allInts.items
  have hn : numsOf (intItems xs).toList = ns := by rw [← e]; exact hi.numsOf
  rw [nums_intItems] at hn
  subst hn
  rw [e] at hl
  have hsz : 0 < xs.size := by simpa using hne
  refine PySem.min_intList hh hl hsz fun v h' tk hv hk => ?_
  obtain ⟨t, rfl⟩ := intItems_at hv
  obtain ⟨h1, h2⟩ := argBest_lt (numAt xs) (xs.size - 1)
  refine h h' tk _ t hk ?_ fun a ha => ?_
  · rw [numAt_eq]; exact PySem.getD_mem (by rw [List.length_map, Array.length_toList]; omega)
  · obtain ⟨j, hj, rfl⟩ := mem_getD ha
    rw [List.length_map, Array.length_toList] at hj
    rw [← numAt_eq]; exact h2 j (by omega)
end

/-! ### the calls, by values (CallR of 03t; MtR of 06l) -/
section
variable {X : Cx}
/-- sum(xs) of a list of ints -/
def rSum (K : PySem.W.Frag) : List V → Hp → VK → Prop := fun vs H Q => ∃ (a : Addr) (ns : List Int), vs = [V.ref a] ∧ SqL K H a (ns.map V.int) ∧ Q (.int ns.sum) H
def rMin (K : PySem.W.Frag) : List V → Hp → VK → Prop := fun vs H Q => ∃ (a : Addr) (ns : List Int), vs = [V.ref a] ∧ SqL K H a (ns.map V.int) ∧ 0 < ns.length ∧ ∀ m, m ∈ ns → (∀ y, y ∈ ns → m ≤ y) → Q (.int m) H
theorem cr_sum (hc : X.calm = true) : CallR X (.builtin "sum") (rSum X.K) := by
  intro pins s σ H vs us Q I r h
  obtain ⟨a, ns, rfl, hs, q⟩ := h
  obtain ⟨its, rv, hl, _⟩ := I.list hs
  rw [Vals.ref1 r]
  exact sum_raw (I.ok.hd hc) hl.isList rv.ints fun h' tk t' hk => ⟨.int _, H, I.kept hk, ⟨_, rfl⟩, q⟩
theorem cr_min (hc : X.calm = true) : CallR X (.builtin "min") (rMin X.K) := by
  intro pins s σ H vs us Q I r h
  obtain ⟨a, ns, rfl, hs, hne, q⟩ := h
  obtain ⟨its, rv, hl, _⟩ := I.list hs
  rw [Vals.ref1 r]
  exact min_raw (I.ok.hd hc) hl.isList rv.ints hne fun h' tk m t' hk h1 h2 => ⟨.int _, H, I.kept hk, ⟨_, rfl⟩, q m h1 h2⟩

/-! sorted, sort (fewer than 64 items: the library's own bound) -/
end

/-! ### list.index, flat items -/
section
variable {X : Cx}
end

/-! ### type(x) of an own instance; is, is not of a module's class -/
section
variable {X : Cx}
end

/-! ### any(xs), all(xs) of a list of bools -/
theorem iter_any {prog : Program} {w : World} {A : Around} {E : Value → Shared → Prop} {s : Shared} {l : Addr} {items : Array Value} {Q : Value → Shared → Prop} (hl : s.heap.IsList l items)
    (h : ∀ s₂ : Shared, s₂ = { s with heap := s.heap.push { cls := .type "list_iterator", data := .fields #[.ref l, .int 0 0] } } →
      (s₂.heap.IsListIter s.heap.objs.size l 0 ∧ s₂.heap.IsList l items) → l ≠ s.heap.objs.size → Q (.ref s.heap.objs.size) s₂) : wpAny (model prog w) A (pyIter (.ref l)) Q E s := by
  have hlt : l < s.heap.objs.size := by obtain ⟨_, e, _⟩ := hl; exact Heap.lt_size e
  exact wpAny_pyIter_list hl (h _ rfl ⟨⟨_, Heap.get?_push_size _ rfl, rfl, rfl⟩, hl.push _⟩ (Nat.ne_of_lt hlt))
theorem truth_bools {prog : Program} {w : World} {A : Around} {bs : List Bool} {its : List Value} (e : its = bs.map Value.bool) :
    TruthOf prog w A (fun i v => its.toArray[i]? = some v) (fun i => bs.getD i false) := fun i v s Q E hv hq => by
  have hv' : its[i]? = some v := by simpa using hv
  rw [e, List.getElem?_map] at hv'
  obtain ⟨b, hb, rfl⟩ := Option.map_eq_some_iff.mp hv'
  have hg : bs.getD i false = b := by rw [List.getD_eq_getElem?_getD, hb] <;> rfl
  have hq' : Q (bs.getD i false) s := hq
  rw [hg] at hq'
  exact wpAny_truthy_bool hq'
theorem all_range : ∀ bs : List Bool, (List.range bs.length).all (fun i => bs.getD i false) = bs.all id
  | [] => rfl
  | b :: bs => by
    rw [List.length_cons, List.range_succ_eq_map, List.all_cons, List.all_map, List.all_cons, ← all_range bs]
    all_goals rfl
section
variable {X : Cx}
def rAll (K : PySem.W.Frag) : List V → Hp → VK → Prop := fun vs H Q => ∃ (a : Addr) (bs : List Bool), vs = [V.ref a] ∧ SqL K H a (bs.map V.bl) ∧ Q (.bl (bs.all id)) H
theorem cr_all (hc : X.calm = true) : CallR X (.builtin "all") (rAll X.K) := by
  intro pins s σ H vs us Q I r h
  obtain ⟨a, bs, rfl, hs, q⟩ := h
  obtain ⟨its, rv, hl, _⟩ := I.list hs
  rw [Vals.ref1 r]
  have hb := rv.bls
  refine call_all_walk (iter_any hl.isList fun s₂ e2 st hne => ?_)
  subst e2
  refine ⟨_, _, _, _, _, _, _, rfl, Walks.list (A := X.A.in1) (I.ok.hd hc) _ a hne its.toArray, st, truth_bools hb, fun h' tk hk => ?_⟩
  refine ⟨.bl _, H, I.kept fun b o eo => hk b o (fun hmem => ?_) (Heap.get?_push_of_some _ eo), ?_, q⟩
  · rcases List.mem_cons.mp hmem with e1 | hmem
    · exact absurd (e1 ▸ Heap.lt_size eo) (Nat.lt_irrefl _)
    · cases hmem
  · show Value.bool _ = Value.bool _
    rw [← all_range, hb, List.size_toArray, List.length_map]
end

/-! ### == and != of data at any depth: none, bools, ints, texts, lists, tuples -/
section
variable {X : Cx} {pins : List (Addr × Obj)} {σ : St} {H : Hp} {s : Shared}
end
section
variable {X : Cx}
end
end L2

namespace L2
open PySem PySem.Spec PyProof.Rows
abbrev CellAt (h : Heap) (c : Addr) (v : Option Value) : Prop := h.IsCell c v
def relS (scope sc : Scope) : Scope :=
  { scope with names := scope.names.map fun (n, k) => if (k == .free && sc.kind == .function && sc.names.lookup n == some .cell) then (n, .cell) else (n, k) }

def cloFrom (cells : List (Str × Addr)) : List (Str × NameKind) → List (Str × Addr) → List (Str × Addr)
  | [], acc => acc
  | (n, k) :: r, acc => if k == .free then cloFrom cells r ((n, (cells.lookup n).getD 0) :: acc) else cloFrom cells r acc

theorem closure_loop (env : Env) (f : Str × NameKind → List (Str × Addr) → Sem (ForInStep (List (Str × Addr))))
    (hf : ∀ n k c, f (n, k) c = if k == .free then (do let a ← cellOf env n; pure (.yield ((n, a) :: c))) else pure (.yield c)) :
    ∀ (names : List (Str × NameKind)) (acc : List (Str × Addr)), (∀ y ∈ names, y.2 = .free → ∃ c, env.cells.lookup y.1 = some c) → forIn names acc f = pure (cloFrom env.cells names acc)
  | [], acc, _ => by rw [List.forIn_nil]; rfl
  | (n, k) :: r, acc, h => by
    rw [List.forIn_cons, hf]
    have ih := fun acc => closure_loop env f hf r acc fun y hy => h y (List.mem_cons_of_mem _ hy)
    unfold cloFrom
    by_cases hk : (k == NameKind.free) = true
    · rw [if_pos hk, if_pos hk]
      obtain ⟨c, hc⟩ := h (n, k) List.mem_cons_self (by simpa using hk)
      have e : cellOf env n = pure c := by unfold cellOf; rw [hc]
      rw [e]
      have e2 : (env.cells.lookup n).getD 0 = c := by rw [hc]; rfl
      rw [e2]
      exact ih _
    · rw [if_neg hk, if_neg hk]
      exact ih _
theorem closure_ok {scope : Scope} {env : Env} (h : ∀ y ∈ scope.names, y.2 = .free → ∃ c, env.cells.lookup y.1 = some c) : closureFor scope env = pure (cloFrom env.cells scope.names []) := by
  simp only [closureFor]
  rw [closure_loop env _ (fun n k c => rfl) scope.names [] h]
  rfl

theorem mem_lookup {α : Type} : ∀ {l : List (Str × α)} {n : Str} {c : α}, (n, c) ∈ l → ∃ c', l.lookup n = some c'
  | (k, v) :: r, n, c, h => by
    rw [List.lookup_cons]
    cases hb : n == k with
    | true => exact ⟨_, rfl⟩
    | false =>
      rcases List.mem_cons.mp h with e | h
      · cases e; simp at hb
      · exact mem_lookup h

theorem cloFrom_mem {cells : List (Str × Addr)} : ∀ {names : List (Str × NameKind)} {acc : List (Str × Addr)} {n : Str} {c : Addr}, (n, c) ∈ cloFrom cells names acc → (n, c) ∈ acc ∨ ((n, .free) ∈ names ∧ c = (cells.lookup n).getD 0)
  | [], _, _, _, h => .inl h
  | (m, k) :: r, acc, n, c, h => by
    unfold cloFrom at h
    split at h
    · rename_i hk
      have hk : k = .free := by simpa using hk
      rcases cloFrom_mem h with h | ⟨h1, h2⟩
      · rcases List.mem_cons.mp h with e | h
        · cases e; exact .inr ⟨hk ▸ List.mem_cons_self, rfl⟩
        · exact .inl h
      · exact .inr ⟨List.mem_cons_of_mem _ h1, h2⟩
    · rcases cloFrom_mem h with h | ⟨h1, h2⟩
      · exact .inl h
      · exact .inr ⟨List.mem_cons_of_mem _ h1, h2⟩
theorem cloFrom_acc {cells : List (Str × Addr)} : ∀ {names : List (Str × NameKind)} {acc : List (Str × Addr)} {p : Str × Addr}, p ∈ acc → p ∈ cloFrom cells names acc
  | [], _, _, h => h
  | (m, k) :: r, acc, p, h => by
    unfold cloFrom
    split
    · exact cloFrom_acc (List.mem_cons_of_mem _ h)
    · exact cloFrom_acc h
theorem cloFrom_has {cells : List (Str × Addr)} : ∀ {names : List (Str × NameKind)} {acc : List (Str × Addr)} {n : Str}, (n, .free) ∈ names → (n, (cells.lookup n).getD 0) ∈ cloFrom cells names acc
  | (m, k) :: r, acc, n, h => by
    unfold cloFrom
    rcases List.mem_cons.mp h with e | h
    · cases e
      exact cloFrom_acc List.mem_cons_self
    · split
      · exact cloFrom_has h
      · exact cloFrom_has h

theorem cells_mem : ∀ {names : List (Str × NameKind)} {h : Heap} {acc : List (Str × Addr)} {x : Str} {c : Addr}, (x, c) ∈ cellsFrom h.objs.size names acc →
    (x, c) ∈ acc ∨ ((x, .cell) ∈ names ∧ h.objs.size ≤ c ∧ CellAt (pushCells h names) c none)
  | [], _, _, _, _, h => .inl h
  | (n, k) :: r, h, acc, x, c, hm => by
    unfold cellsFrom at hm
    unfold pushCells
    split at hm
    · rename_i hk
      rw [if_pos hk]
      have hk : k = .cell := by simpa using hk
      rw [← Heap.size_push h { cls := .type "cell", data := .cell none }] at hm
      rcases cells_mem hm with hm | ⟨h1, h2, h3⟩
      · rcases List.mem_cons.mp hm with e | hm
        · cases e
          exact .inr ⟨hk ▸ List.mem_cons_self, Nat.le_refl _, _, pushCells_keeps r _ _ _ (Heap.get?_push_size _ rfl), rfl⟩
        · exact .inl hm
      · rw [Heap.size_push] at h2
        exact .inr ⟨List.mem_cons_of_mem _ h1, Nat.le_of_succ_le h2, h3⟩
    · rename_i hk
      rw [if_neg hk]
      rcases cells_mem hm with hm | ⟨h1, h2, h3⟩
      · exact .inl hm
      · exact .inr ⟨List.mem_cons_of_mem _ h1, h2, h3⟩
theorem cells_acc : ∀ {names : List (Str × NameKind)} {n : Nat} {acc : List (Str × Addr)} {p : Str × Addr}, p ∈ acc → p ∈ cellsFrom n names acc
  | [], _, _, _, h => h
  | (m, k) :: r, n, acc, p, h => by
    unfold cellsFrom
    split
    · exact cells_acc (List.mem_cons_of_mem _ h)
    · exact cells_acc h
theorem cells_has : ∀ {names : List (Str × NameKind)} {n : Nat} {acc : List (Str × Addr)} {x : Str}, (x, .cell) ∈ names → ∃ c, (x, c) ∈ cellsFrom n names acc
  | (m, k) :: r, n, acc, x, h => by
    unfold cellsFrom
    rcases List.mem_cons.mp h with e | h
    · cases e
      exact ⟨n, cells_acc List.mem_cons_self⟩
    · split
      · exact cells_has h
      · exact cells_has h
theorem cells_inj : ∀ {names : List (Str × NameKind)} {h : Heap} {acc : List (Str × Addr)} {x y : Str} {c : Addr}, (∀ p ∈ acc, p.2 < h.objs.size) → (∀ x y c, (x, c) ∈ acc → (y, c) ∈ acc → x = y) →
    (x, c) ∈ cellsFrom h.objs.size names acc → (y, c) ∈ cellsFrom h.objs.size names acc → x = y
  | [], _, _, _, _, _, _, hi, h1, h2 => hi _ _ _ h1 h2
  | (n, k) :: r, h, acc, x, y, c, hl, hi, h1, h2 => by
    unfold cellsFrom at h1 h2
    split at h1
    · rename_i hk
      rw [if_pos hk] at h2
      rw [← Heap.size_push h { cls := .type "cell", data := .cell none }] at h1 h2
      refine cells_inj (h := h.push _) (fun p hp => ?_) (fun x y c a b => ?_) h1 h2
      · rw [Heap.size_push]
        rcases List.mem_cons.mp hp with rfl | hp
        · exact Nat.lt_succ_self _
        · exact Nat.lt_succ_of_lt (hl p hp)
      · rcases List.mem_cons.mp a with e | a <;> rcases List.mem_cons.mp b with e' | b
        · cases e; cases e'; rfl
        · cases e; exact absurd (hl _ b) (Nat.lt_irrefl _)
        · cases e'; exact absurd (hl _ a) (Nat.lt_irrefl _)
        · exact hi _ _ _ a b
    · rename_i hk
      rw [if_neg hk] at h2
      exact cells_inj hl hi h1 h2

theorem newEnv_comp {M : Model} {A : Around} {E : Value → Shared → Prop} {s : Shared} {scope : Scope} {globals : Addr} {closure : List (Str × Addr)} {qual : Str} {func : Option Addr} {code : Value} {around : Env} {builtins : Addr} {Q : Env → Shared → Prop}
    (h : Q (newEnv scope s.heap.objs.size globals (cellsFrom (s.heap.objs.size + 1) scope.names closure) qual func code (some around) builtins)
      { s with heap := pushCells (s.heap.push { cls := .type "dict", data := .dict #[] }) scope.names }) :
    wpAny M A (newFunctionEnv scope globals closure [] qual func code (some around) builtins) Q E s := by
  simp only [newFunctionEnv, Option.isSome_some, if_true]
  refine wpAny_bind (wpAny_alloc ?_)
  refine wpAny_bind (wpAny_layCells _ (fun n k c => rfl) scope.names closure _ _ ?_)
  rw [show ({ s with heap := s.heap.push { cls := .type "dict", data := .dict #[] } } : Shared).heap.objs.size = s.heap.objs.size + 1 from Heap.size_push ..]
  rw [List.forIn_nil]
  exact wpAny_bind (wpAny_pure (wpAny_pure h))

/-- every name of the written scope, in the scope that runs -/
theorem lookup_relS {sc : Scope} : ∀ {names : List (Str × NameKind)} {x : Str} {k : NameKind},
    (names.map fun (n, k) => if (k == NameKind.free && sc.kind == .function && sc.names.lookup n == some .cell) then (n, NameKind.cell) else (n, k)).lookup x = some k →
    ∃ k', names.lookup x = some k' ∧ (k = k' ∨ (k' = .free ∧ k = .cell))
  | [], _, _, h => by simp at h
  | (n, k₀) :: r, x, k, h => by
    have ih := @lookup_relS sc r x k
    have h' : List.lookup x ((if (k₀ == NameKind.free && sc.kind == .function && sc.names.lookup n == some .cell) = true then (n, NameKind.cell) else (n, k₀)) :: (r.map _)) = some k := h
    cases hx : x == n with
    | true =>
      simp only [List.lookup_cons, hx]
      by_cases hc : (k₀ == NameKind.free && sc.kind == .function && sc.names.lookup n == some .cell) = true
      · rw [if_pos hc] at h'
        simp only [List.lookup_cons, hx] at h'
        cases h'
        simp only [Bool.and_eq_true, beq_iff_eq] at hc
        exact ⟨k₀, rfl, .inr ⟨hc.1.1, rfl⟩⟩
      · rw [if_neg hc] at h'
        simp only [List.lookup_cons, hx] at h'
        cases h'
        exact ⟨_, rfl, .inl rfl⟩
    | false =>
      simp only [List.lookup_cons, hx]
      by_cases hc : (k₀ == NameKind.free && sc.kind == .function && sc.names.lookup n == some .cell) = true
      · rw [if_pos hc] at h'
        simp only [List.lookup_cons, hx] at h'
        exact ih h'
      · rw [if_neg hc] at h'
        simp only [List.lookup_cons, hx] at h'
        exact ih h'
/-- the names of a comprehension's block: its own (with their places in N), or captured -/
structure BlkOk (N : List Str) (sc scope : Scope) (own : List (Str × Nat)) : Prop where
  kind : scope.kind = .function
  uniq : ∀ y ∈ scope.names, scope.names.lookup y.1 = some y.2
  ix : ∀ p ∈ own, N[p.2]? = some p.1
  free : ∀ y ∈ scope.names, y.2 = .free → sc.names.lookup y.1 = some .cell ∨ sc.names.lookup y.1 = some .free
  own : ∀ y ∈ scope.names, y.2 = .local ∨ y.2 = .cell → y.1 ∈ own.map (·.1) ∨ y.1 ∉ N
/-- the slots of the block's own names forgotten -/
def wipe (σ : St) : List Nat → St
  | [] => σ
  | v :: vs => (wipe σ vs).set v none
theorem wipe_length (σ : St) : ∀ vs : List Nat, (wipe σ vs).length = σ.length
  | [] => rfl
  | v :: vs => by unfold wipe; rw [List.length_set, wipe_length σ vs]
theorem wipe_some {σ : St} {i : Nat} {x : V} : ∀ {vs : List Nat}, (wipe σ vs)[i]? = some (some x) → σ[i]? = some (some x) ∧ i ∉ vs
  | [], h => ⟨h, by simp⟩
  | v :: vs, h => by
    unfold wipe at h
    by_cases hi : v = i
    · subst hi
      by_cases hv : v < (wipe σ vs).length
      · rw [List.getElem?_set_self hv] at h; cases h
      · rw [List.getElem?_eq_none (by simpa using hv)] at h; cases h
    · rw [List.getElem?_set_ne hi] at h
      obtain ⟨h1, h2⟩ := wipe_some h
      exact ⟨h1, by simp only [List.mem_cons, not_or]; exact ⟨fun e => hi e.symm, h2⟩⟩

/-- the context of a block that starts at s, its iterator's objects at fp -/
abbrev Cx.blk (X : Cx) (s : Shared) (H : Hp) (scope : Scope) (cenv : Env) (fp : List Addr) : Cx := { X with s_0 := s, H_0 := H, env := cenv, outer := X.stack, ex := fp, fn := fun x => scope.names.lookup x == some .cell, pn := [], xe := fun _ _ => False }
section
variable {X : Cx} {pins : List (Addr × Obj)} {σ : St} {H : Hp} {s : Shared}
theorem block_start {scope : Scope} {own : List (Str × Nat)} {fp : List Addr} (I : Inv X pins σ H s) (ok : BlkOk X.N X.env.scope scope own) (hN : X.N.Nodup) (hfp : ∀ b ∈ fp, FpOk X pins H b ∧ b < s.heap.objs.size) :
    Inv (X.blk s H scope (compEnvC scope (cellsFrom (s.heap.objs.size + 1) scope.names (cloFrom X.env.cells scope.names [])) s.heap.objs.size X.env) fp) [] (wipe σ (own.map (·.2))) H { s with heap := pushCells (s.heap.push { cls := .type "dict", data := .dict #[] }) scope.names } := by
  have hfree : ∀ y ∈ scope.names, y.2 = .free → ∃ c, X.env.cells.lookup y.1 = some c := fun y hy e => by
    rcases ok.free y hy e with k | k
    · exact I.ok.has _ (.inl k)
    · exact I.ok.has _ (.inr k)
  generalize hcenv : compEnvC scope (cellsFrom (s.heap.objs.size + 1) scope.names (cloFrom X.env.cells scope.names [])) s.heap.objs.size X.env = cenv
  have kp : ∀ b o, s.heap.get? b = some o → (pushCells (s.heap.push { cls := .type "dict", data := .dict #[] }) scope.names).get? b = some o := fun b o e => pushCells_keeps _ _ _ _ (Heap.get?_push_of_some _ e)
  have hL : cenv.locals = s.heap.objs.size := by rw [← hcenv]; rfl
  have hcl : cenv.cells = cellsFrom (s.heap.objs.size + 1) scope.names (cloFrom X.env.cells scope.names []) := by rw [← hcenv]; rfl
  have hsc : cenv.scope = relS scope X.env.scope := by rw [← hcenv]; rfl
  rw [← Heap.size_push s.heap { cls := .type "dict", data := .dict #[] }] at hcl
  have cm : ∀ {y c}, (y, c) ∈ cloFrom X.env.cells scope.names [] → X.env.cells.lookup y = some c ∧ c < s.heap.objs.size := fun {y c} hm => by
    rcases cloFrom_mem hm with hm | ⟨h1, rfl⟩
    · cases hm
    · obtain ⟨c, hc⟩ := hfree _ h1 rfl
      rw [hc]
      obtain ⟨w, z⟩ := I.cell _ _ hc
      exact ⟨rfl, z.lt⟩
  have mem : ∀ {y c}, cenv.cells.lookup y = some c → (X.env.cells.lookup y = some c ∧ c < s.heap.objs.size) ∨ (s.heap.objs.size + 1 ≤ c ∧ CellAt (pushCells (s.heap.push { cls := .type "dict", data := .dict #[] }) scope.names) c none) := fun {y c} e => by
    rw [hcl] at e
    rcases cells_mem (PySem.mem_of_lookup e) with hm | ⟨_, h2, h3⟩
    · exact .inl (cm hm)
    · rw [Heap.size_push] at h2; exact .inr ⟨h2, h3⟩
  have look : ∀ {y}, scope.names.lookup y = some .free → ∃ c, cenv.cells.lookup y = some c ∧ X.env.cells.lookup y = some c := fun {y} hl => by
    have hy : (y, NameKind.free) ∈ scope.names := PySem.mem_of_lookup hl
    obtain ⟨c', e'⟩ := mem_lookup (cells_acc (names := scope.names) (n := (s.heap.push { cls := .type "dict", data := .dict #[] }).objs.size) (cloFrom_has (cells := X.env.cells) (acc := []) hy))
    rw [← hcl] at e'
    refine ⟨c', e', ?_⟩
    rw [hcl] at e'
    rcases cells_mem (PySem.mem_of_lookup e') with hm | ⟨h1, _, _⟩
    · exact (cm hm).1
    · have := ok.uniq _ h1
      rw [hl] at this; cases this
  have okB : (X.blk s H scope cenv fp).Ok := by
    refine ⟨I.ok.mod, by show cenv.scope.kind = _; rw [hsc]; exact ok.kind, by show cenv.globals = _; rw [← hcenv]; exact I.ok.glob, by show cenv.builtins = _; rw [← hcenv]; exact I.ok.blt, by show s.heap.objs.size ≤ cenv.locals; rw [hL]; exact Nat.le_refl _,
      fun y z c e1 e2 => ?_, fun y hy => ?_, fun y c z e => ?_, I.ok.hd, I.ok.frames, .inl rfl, fun b hb => ⟨?_, fun y c e z => ?_⟩, I.bs, Nat.le_trans I.ok.bsz I.sz, fun b o e hb => ?_, fun b hb z => ?_, I.stack, I.stkFree⟩
    · have e1 : cenv.cells.lookup y = some c := e1
      have e2 : cenv.cells.lookup z = some c := e2
      rw [hcl] at e1 e2
      refine cells_inj (fun p hp => ?_) (fun y z c a b => I.ok.inj y z c (cm a).1 (cm b).1) (PySem.mem_of_lookup e1) (PySem.mem_of_lookup e2)
      rw [Heap.size_push]
      exact Nat.lt_succ_of_lt (cm (y := p.1) (c := p.2) hp).2
    · show ∃ c, cenv.cells.lookup y = some c
      have key : ∀ k, cenv.kindOf y = some k → (k = .cell ∨ k = .free) → ∃ c, cenv.cells.lookup y = some c := fun k hk hk' => by
        unfold Env.kindOf at hk
        rw [hsc] at hk
        obtain ⟨k', e, r⟩ := lookup_relS hk
        have : k' = .cell ∨ k' = .free := by
          rcases r with rfl | ⟨rfl, _⟩
          · exact hk'
          · exact .inr rfl
        rcases this with rfl | rfl
        · obtain ⟨c, hm⟩ := cells_has (n := (s.heap.push { cls := .type "dict", data := .dict #[] }).objs.size) (acc := cloFrom X.env.cells scope.names []) (PySem.mem_of_lookup e)
          obtain ⟨c', e'⟩ := mem_lookup hm
          exact ⟨c', by rw [hcl]; exact e'⟩
        · obtain ⟨c, h1, _⟩ := look e
          exact ⟨c, h1⟩
      rcases hy with hy | hy
      · exact key _ hy (.inl rfl)
      · exact key _ hy (.inr rfl)
    · have z : (scope.names.lookup y == some NameKind.cell) = true := z
      have z : scope.names.lookup y = some .cell := by simpa using z
      have e : cenv.cells.lookup y = some c := e
      rw [hcl] at e
      rcases cells_mem (PySem.mem_of_lookup e) with hm | ⟨_, h2, _⟩
      · rcases cloFrom_mem hm with hm | ⟨h1, _⟩
        · cases hm
        · have q := ok.uniq _ h1
          rw [z] at q; cases q
      · rw [Heap.size_push] at h2
        exact Nat.le_of_succ_le h2
    · show b ≠ cenv.locals
      rw [hL]; exact Nat.ne_of_lt (hfp b hb).2
    · have e : cenv.cells.lookup y = some c := e
      rcases mem e with ⟨h1, _⟩ | ⟨h1, _⟩
      · exact (hfp b hb).1.2.2.2.2.1 y c h1 z
      · have h2 : s.heap.objs.size + 1 ≤ b := by rw [← z]; exact h1
        exact absurd (Nat.lt_of_lt_of_le (hfp b hb).2 (Nat.le_of_succ_le h2)) (Nat.lt_irrefl _)
    · rcases (hfp b hb).1.2.2.2.1 with z | z
      · exact I.ok.noex b o e z
      · exact absurd (Nat.lt_of_lt_of_le (Heap.lt_size e) (Nat.le_trans I.ok.bsz z)) (Nat.lt_irrefl _)
    · rcases List.mem_cons.mp (I.stkSub b z) with z | z
      · exact (hfp b hb).1.2.1 z
      · exact (hfp b hb).1.2.2.1 z
  refine ⟨okB, rfl, I.bare, Un.kept kp, ⟨fun _ => none, ?_, fun i y av e1 e2 e3 => ?_⟩, fun y c e => ?_, ?_, fun y c e => ?_, fun p hp => ?_, I.hok.kept kp, by rw [wipe_length]; exact I.len⟩
  · show Heap.Ns _ cenv.locals _
    rw [hL]
    exact Heap.Ns.keeps (Heap.Ns.new ..) fun b o e => pushCells_keeps _ _ _ _ e
  · obtain ⟨e2, hne⟩ := wipe_some e2
    have hfr : scope.names.lookup y = some .free ∧ (cenv.kindOf y = some .cell ∨ cenv.kindOf y = some .free) := by
      have key : ∀ k, cenv.scope.names.lookup y = some k → k = .local ∨ k = .cell ∨ k = .free → scope.names.lookup y = some .free ∧ (cenv.kindOf y = some .cell ∨ cenv.kindOf y = some .free) := fun k hk hk' => by
        have hk0 := hk
        rw [hsc] at hk
        obtain ⟨k', e, r⟩ := lookup_relS hk
        have no : ¬ (k' = .local ∨ k' = .cell) := fun hh => by
          rcases ok.own _ (PySem.mem_of_lookup e) hh with e' | e'
          · obtain ⟨p, hp, hpy⟩ := List.mem_map.mp e'
            have e3 := ok.ix p hp
            have : p.1 = y := hpy
            rw [this] at e3
            exact hne (List.mem_map.mpr ⟨p, hp, nodup_ix hN e3 e1⟩)
          · exact e' (List.mem_of_getElem? e1)
        rcases r with rfl | ⟨rfl, rfl⟩
        · rcases hk' with rfl | rfl | rfl
          · exact absurd (.inl rfl) no
          · exact absurd (.inr rfl) no
          · exact ⟨e, .inr hk0⟩
        · exact ⟨e, .inl hk0⟩
      have e3 : Vis cenv.scope y := e3
      rcases e3 with e3 | e3 | e3
      · exact key _ e3 (.inl rfl)
      · exact key _ e3 (.inr (.inl rfl))
      · exact key _ e3 (.inr (.inr rfl))
    obtain ⟨m, hn, hl⟩ := I.loc
    have hvis : Vis X.env.scope y := (ok.free _ (PySem.mem_of_lookup hfr.1) rfl).elim (fun k => .inr (.inl k)) (fun k => .inr (.inr k))
    obtain ⟨w, r, q⟩ := hl i y av e1 e2 hvis
    refine ⟨w, r, .inr ⟨hfr.2, ?_⟩⟩
    obtain ⟨c, h1, h2⟩ := look hfr.1
    rcases q with ⟨k, _⟩ | ⟨_, c', e', z⟩
    · have k : X.env.scope.names.lookup y = some .local := k
      rcases ok.free _ (PySem.mem_of_lookup hfr.1) rfl with k' | k' <;> rw [show X.env.scope.names.lookup y = _ from k'] at k <;> cases k
    · rw [h2] at e'; cases e'
      exact ⟨c, h1, z.keeps kp⟩
  · have e : cenv.cells.lookup y = some c := e
    rcases mem e with ⟨h1, _⟩ | ⟨_, z⟩
    · obtain ⟨w, z⟩ := I.cell y c h1
      exact ⟨w, z.keeps kp⟩
    · exact ⟨_, z⟩
  · show H cenv.locals = none
    rw [hL]; exact I.hok.fresh (Nat.le_refl _)
  · have e : cenv.cells.lookup y = some c := e
    rcases mem e with ⟨h1, _⟩ | ⟨h1, _⟩
    · exact I.freeC y c h1
    · exact I.hok.fresh (Nat.le_of_succ_le h1)
  · exact absurd (show p ∈ ([] : List (Addr × Obj)) ++ [] from hp) (by simp)

/-- an item appended to a tracked list -/
theorem app_ok {E : Value → Shared → Prop} {D : Addr} {xs : List V} {y : V} {v : Value} {Q : Value → Shared → Prop} (I : Inv X pins σ H s) (hD : H D = some (.lst xs)) (hz : xs.length < sizeLine) (r : RelV y v)
    (h : ∀ s', Inv X pins σ (upd H D (.lst (xs ++ [y]))) s' → Q .none s') : wpAny (model X.prog X.w) X.A (call (.builtin "list.append") [.ref D, v]) Q E s := by
  obtain ⟨hz', its, n, ri, e⟩ := I.hok D _ hD
  have hl := ri.length
  refine append_at (hsz := by rw [List.size_toArray]; omega) e fun h' sb ho' => ?_
  refine h { s with heap := h' } (I.write (t' := s.toks) (by rw [hD]; trivial) (.inl rfl) (fun b u hb q => (sb.2 b hb).trans q) ⟨_, ho'⟩ ⟨by rw [List.length_append]; exact hz, its ++ [v], n + 1, ri.append (.cons r .nil), ?_⟩)
  rw [ho']
  simp

/-- a clause's tests -/
def PTs (X : Cx) (ifs : List Expr) (t : TT) : Prop :=
  ∀ (pins : List (Addr × Obj)) (s : Shared) (σ : St) (H : Hp) (Q : Bool → Hp → Prop), Inv X pins σ H s → t σ H Q →
    wpAny (model X.prog X.w) X.A (forIn ifs true fun c r => if r = true then do let ok ← isTrue c X.env (eval c X.env); pure (ForInStep.yield ok) else pure (ForInStep.yield r)) (TP X pins σ Q) X.xe s
def tYes : TT := fun _ H Q => Q true H
theorem pts_nil : PTs X [] tYes := fun _ _ _ H _ I h => wpAny_tests_nil ⟨H, I, h⟩
theorem pts_one {c : Expr} {t : TT} (h : PT X c t) : PTs X [c] t := fun pins s σ H Q I hw => wpAny_tests_one (h pins s σ H Q I hw)
end

theorem thnF {α : Type} {t : Sem α} {Q Q' : α → Shared → Prop} {M : Model} {A : Around} {E : Value → Shared → Prop} {s : Shared} (h : wpAny M A t Q (fun _ _ => False) s) (hQ : ∀ a s, Q a s → Q' a s) : wpAny M A t Q' E s := wpAny_mono h hQ fun _ _ z => False.elim z

/-- the loop of a list comprehension's block, the target of any form (codeAny_compLoop_tests asks a target that no tuple goes to; statement and proof follow it, PyProof/CompMap.lean:41-61, with the step letOwnedTupleGo kept) -/
theorem compLoop_any {prog : Program} {w : World} {A : Around} {R : Result → Shared → Prop} {s : Shared} {elt target iter : Expr} {ifs : List Expr} {scope : Scope} {pos : Pos} {it acc : Value} {env : Env} (I : Nat → Shared → Prop)
    (turn : ∀ n s, I n s → wpAny (model prog w) A (pyNext it) (fun r s₁ => match r with
      | none => R (.ok .next) s₁
      | some v => wpAny (model prog w) A (letOwnedTupleGo target it v) (fun _ s₁' => wpAny (model prog w) A (assign target env v) (fun _ s₂ =>
          wpAny (model prog w) A (forIn ifs true fun c r => if r = true then do let ok ← isTrue c env (eval c env); pure (ForInStep.yield ok) else pure (ForInStep.yield r)) (fun ok s₃ =>
            if ok = true then wpAny (model prog w) A (eval elt env) (fun x s₄ =>
              wpAny (model prog w) A (call (.builtin "list.append") [acc, x]) (fun _ s₅ => ∃ m, m < n ∧ I m s₅) (notedBy (model prog w) A env fun e s' => R (.error e) s') s₄) (notedBy (model prog w) A env fun e s' => R (.error e) s') s₃
            else ∃ m, m < n ∧ I m s₃) (notedBy (model prog w) A env fun e s' => R (.error e) s') s₂) (notedBy (model prog w) A env fun e s' => R (.error e) s') s₁') (notedBy (model prog w) A env fun e s' => R (.error e) s') s₁) (notedBy (model prog w) A env fun e s' => R (.error e) s') s)
    (n : Nat) (h : I n s) :
    codeAny (model prog w) A (.compLoop (.ListComp elt [⟨target, iter, ifs, 0⟩] scope pos) 0 it acc env) R s := by
  refine codeAny_loop rfl I (fun n s hI => ?_) n h
  show wpAny _ A ((compTurn (.ListComp elt [⟨target, iter, ifs, 0⟩] scope pos) 0 it acc env).onRaise (fun x => do noteFrame x env; theTreesLotGoes x)) _ _ s
  refine wpAny_noted ?_
  rw [compTurn_list]
  refine wpAny_bind (wpAny_standAt (wpAny_bind (wpAny_mono (turn n s hI) (fun r s₁ h₁ => ?_) fun _ _ h' => h')))
  cases r with
  | none => exact wpAny_pure h₁
  | some v =>
    refine wpAny_bind (wpAny_mono h₁ (fun _ s₁' h₁' => ?_) fun _ _ h' => h')
    refine wpAny_bind (wpAny_mono h₁' (fun _ s₂ h₂ => wpAny_bind (wpAny_mono h₂ (fun ok s₃ h₃ => ?_) fun _ _ h' => h')) fun _ _ h' => h')
    cases ok with
    | false => exact wpAny_pure ⟨rfl, h₃⟩
    | true =>
      exact wpAny_bind (wpAny_bind (wpAny_mono h₃ (fun x s₄ h₄ => wpAny_bind (wpAny_mono h₄ (fun _ s₅ h₅ => wpAny_pure (wpAny_pure ⟨rfl, h₅⟩)) fun _ _ h' => h')) fun _ _ h' => h'))

section
variable {X : Cx}
/-- [elt for target in iter if ..]: D the new list; W by the turn and a measure, Nx what a turn is to reach -/
def tLc (wi : TI) (g : TG) (tt : TT) (te : TE) (vs : List Nat) : TE := fun σ H Q => wi σ H fun J H1 => ∀ D, H1 D = none → ∃ W : Nat → Nat → Hp → Prop, (∃ m, W 0 m (upd H1 D (.lst []))) ∧ ∀ i m H, W i m H →
  (J.stop i H ∧ Q (.ref D) H) ∨ (J.go i H ∧ ∃ Nx : Hp → Prop, (∀ H', Nx H' → ∃ m', m' < m ∧ W (i + 1) m' H') ∧ ∀ x H', J.yld i H x H' → g x (wipe σ vs) H' fun σ2 H2 => wipe σ2 vs = wipe σ vs ∧ tt σ2 H2 fun b H3 =>
    if b = true then te σ2 H3 fun y H4 => ∃ acc, H4 D = some (.lst acc) ∧ acc.length < sizeLine ∧ Nx (upd H4 D (.lst (acc ++ [y]))) else Nx H3)
theorem lc_core {pins : List (Addr × Obj)} {s : Shared} {σ : St} {H : Hp} {Q : VK} {elt tg iter : Expr} {ifs : List Expr} {scope : Scope} {own : List (Str × Nat)} {pos pos' : Pos} {wi : TI} {g : TG} {tt : TT} {te : TE} {use : Option (Value → Sem Unit)} {Qf : Value → Shared → Prop}
    (hc : X.calm = true) (hN : X.N.Nodup) (I : Inv X pins σ H s) (hi : PI X tg iter wi) (ok : BlkOk X.N X.env.scope scope own)
    (hg : ∀ (s : Shared) (H : Hp) (C : Addr) (cl : List (Str × Addr)) (fp : List Addr), PG (X.blk s H scope (compEnvC scope cl C X.env) fp) tg g) (ht : ∀ (s : Shared) (H : Hp) (C : Addr) (cl : List (Str × Addr)) (fp : List Addr), PTs (X.blk s H scope (compEnvC scope cl C X.env) fp) ifs tt)
    (he : ∀ (s : Shared) (H : Hp) (C : Addr) (cl : List (Str × Addr)) (fp : List Addr), PE (X.blk s H scope (compEnvC scope cl C X.env) fp) elt te) (hs : ∀ x, foldedSetIterable iter X.env x = pure x)
    (h : tLc wi g tt te (own.map (·.2)) σ H Q)
    (hRR : ∀ D C s' m H', Inv X pins σ H' s' → Q (.ref D) H' → s'.heap.Ns C m → FpOk X pins H' C → compPost (model X.prog X.w) X.A X.xe use Qf (.ref D) C (.ok .next) s') :
    wpAny (model X.prog X.w) X.A (comprehension (.ListComp elt [⟨tg, iter, ifs, 0⟩] scope pos) scope X.env pos' (newList []) false (eval iter X.env) use) Qf X.xe s := by
  have hfree : ∀ y ∈ scope.names, y.2 = .free → ∃ c, X.env.cells.lookup y.1 = some c := fun y hy e => by
    rcases ok.free y hy e with k | k
    · exact I.ok.has _ (.inl k)
    · exact I.ok.has _ (.inr k)
  refine wpAny_comprehension_free (use := use) rfl hs (closure_ok hfree) ok.kind (fun y hy e => by rw [ok.uniq y hy, e])
    (thn (hi pins s σ H _ I h) fun xv s1 hx => thn hx fun itv s2 h2 => ?_)
  obtain ⟨it, fp, tn, J, H2, e, I2, T, st2, f2, q⟩ := h2
  subst e
  refine wpAny_newObj_type (newEnv_comp ?_) (by show 0 ≤ sizeLine; decide)
  generalize hD : s2.heap.objs.size = D
  have hDn : H2 D = none := I2.hok.fresh (Nat.le_of_eq hD)
  obtain ⟨W, ⟨m0, w0⟩, turn⟩ := q D hDn
  -- the new list
  generalize hs3 : ({ s2 with heap := s2.heap.push { cls := .type "list", data := .seq ([] : List Value).toArray } } : Shared) = s3
  have I3 : Inv X pins σ (upd H2 D (.lst [])) s3 := by
    rw [← hs3]
    refine I2.laid (t' := s2.toks) (fun b o e => Heap.get?_push_of_some _ e) (Nat.le_of_eq hD) ⟨Nat.zero_le _, [], 0, .nil, ?_⟩
    rw [← hD]
    exact Heap.get?_push_size _ rfl
  have h3 : s3.heap = s2.heap.push { cls := .type "list", data := .seq ([] : List Value).toArray } := by rw [← hs3]
  have sz : ∀ b ∈ fp, b < s2.heap.objs.size := fun b hb => by
    obtain ⟨o, e, _⟩ := T.obj _ _ st2 b hb
    exact Heap.lt_size e
  have f3 : ∀ b ∈ fp, FpOk X pins (upd H2 D (.lst [])) b ∧ b < s3.heap.objs.size := fun b hb => by
    have hlt := sz b hb
    refine ⟨⟨?_, (f2 b hb).2⟩, by rw [h3, Heap.size_push]; exact Nat.lt_succ_of_lt hlt⟩
    rw [upd_ne (by rw [← hD]; exact Nat.ne_of_lt hlt)]
    exact (f2 b hb).1
  have st3 : tn 0 s3.heap := T.keep _ _ _ st2 fun b _ o e => by rw [h3]; exact Heap.get?_push_of_some _ e
  have I4 := block_start I3 ok hN f3
  have pg := hg s3 (upd H2 D (.lst [])) s3.heap.objs.size (cellsFrom (s3.heap.objs.size + 1) scope.names (cloFrom X.env.cells scope.names [])) fp
  have pt := ht s3 (upd H2 D (.lst [])) s3.heap.objs.size (cellsFrom (s3.heap.objs.size + 1) scope.names (cloFrom X.env.cells scope.names [])) fp
  have pe := he s3 (upd H2 D (.lst [])) s3.heap.objs.size (cellsFrom (s3.heap.objs.size + 1) scope.names (cloFrom X.env.cells scope.names [])) fp
  show codeAny _ _ (.compStart (.ListComp elt [⟨tg, iter, ifs, 0⟩] scope pos) 0 (.ref it) (.ref D) (compEnvC scope (cellsFrom (s3.heap.objs.size + 1) scope.names (cloFrom X.env.cells scope.names [])) s3.heap.objs.size X.env)) (compPost (model X.prog X.w) X.A X.xe use Qf (.ref D) s3.heap.objs.size) { s3 with heap := pushCells (s3.heap.push { cls := .type "dict", data := .dict #[] }) scope.names }
  have nfp : ∀ b ∈ fp, (upd H2 D (.lst [])) b = none := fun b hb => (f3 b hb).1.1
  generalize hce : compEnvC scope (cellsFrom (s3.heap.objs.size + 1) scope.names (cloFrom X.env.cells scope.names [])) s3.heap.objs.size X.env = ce at I4 pg pt pe ⊢
  have cL : ce.locals = s3.heap.objs.size := by subst hce; rfl
  generalize hH3 : upd H2 D (.lst []) = H3 at I3 I4 pg pt pe w0 nfp f3
  generalize hs4 : ({ s3 with heap := pushCells (s3.heap.push { cls := .type "dict", data := .dict #[] }) scope.names } : Shared) = s4 at I4 ⊢
  have st4 : tn 0 s4.heap := T.keep _ _ _ st3 fun b _ o e => by rw [← hs4]; exact pushCells_keeps _ _ _ _ (Heap.get?_push_of_some _ e)
  have stat : ∀ {σ' : St} {H' : Hp} {s' : Shared}, Inv (X.blk s3 H3 scope ce fp) [] σ' H' s' → (∀ b ∈ fp, H' b = none) → ∀ b ∈ fp, FpOk (X.blk s3 H3 scope ce fp) [] H' b := fun {σ' H' s'} I' hn b hb =>
    ⟨hn b hb, (I'.ok.exf b hb).1, I'.ok.exfs b hb, .inl hb, fun x c e => (I'.ok.exf b hb).2 x c e, fun p hp => absurd (show p ∈ ([] : List (Addr × Obj)) ++ [] from hp) (by simp)⟩
  have loop : codeAny (model X.prog X.w) X.A (.compLoop (.ListComp elt [⟨tg, iter, ifs, 0⟩] scope pos) 0 (.ref it) (.ref D) ce) (compPost (model X.prog X.w) X.A X.xe use Qf (.ref D) s3.heap.objs.size) s4 := by
    refine compLoop_any (fun n s' => ∃ i H', Inv (X.blk s3 H3 scope ce fp) [] (wipe σ (own.map (·.2))) H' s' ∧ tn i s'.heap ∧ (∀ b ∈ fp, H' b = none) ∧ W i n H') ?_ m0 ⟨0, H3, I4, st4, nfp, w0⟩
    rintro n s5 ⟨i, H5, I5, st5, n5, w5⟩
    rcases turn i n H5 w5 with ⟨stop, qq⟩ | ⟨go, Nx, hNx, step⟩
    · have td := T.done (X.blk s3 H3 scope ce fp) rfl rfl rfl hc i [] s5 _ H5 (fun _ _ => False) I5 (stat I5 n5) st5 stop
      refine thnF td fun r s6 ⟨hr, I6⟩ => ?_
      subst hr
      -- back in the def's context
      have I7 : Inv X pins σ H5 s6 := I3.call' (ch := fp) I6.os I6.base I6.hok I6.bare fun b hb => ⟨(f3 b hb).1.2.2.2.1, (f3 b hb).1.2.1, (f3 b hb).1.2.2.2.2.1, (f3 b hb).1.2.2.2.2.2⟩
      have nC : H5 s3.heap.objs.size = none := by
        have z : H5 ce.locals = none := I6.free
        rw [cL] at z
        exact z
      obtain ⟨m, hn, _⟩ := I6.loc
      have hn : s6.heap.Ns ce.locals m := hn
      rw [cL] at hn
      exact hRR D s3.heap.objs.size s6 m H5 I7 qq hn (I3.fpOk (Nat.le_refl _) nC)
    · have ti := T.item (X.blk s3 H3 scope ce fp) rfl rfl rfl hc i [] s5 _ H5 (fun _ _ => False) I5 (stat I5 n5) st5 go
      refine thnF ti fun r s6 ⟨u, hr, h6⟩ => ?_
      subst hr
      refine thnF h6 fun _ s7 ⟨x, H7, I7, r7, y7, st7, n7⟩ => ?_
      have I7' := I7.pinned (stat I7 n7) (T.obj _ _ st7)
      refine thnF (pg _ s7 _ H7 x u _ I7' r7 (step x H7 y7)) fun _ s8 ⟨σ8, H8, I8, hw8, q8⟩ => ?_
      refine thnF (pt _ s8 σ8 H8 _ I8 q8) fun b s9 ⟨H9, I9, q9⟩ => ?_
      -- the turn's end
      have fin : ∀ {s' : Shared} {H' : Hp}, Inv (X.blk s3 H3 scope ce fp) ([] ++ pinsAt fp s7.heap) σ8 H' s' → Nx H' → ∃ m, m < n ∧ ∃ i H', Inv (X.blk s3 H3 scope ce fp) [] (wipe σ (own.map (·.2))) H' s' ∧ tn i s'.heap ∧ (∀ b ∈ fp, H' b = none) ∧ W i m H' := fun {s' H'} I' nx => by
        obtain ⟨m', hm, w'⟩ := hNx H' nx
        have pin' : ∀ b ∈ fp, ∀ o, s7.heap.get? b = some o → s'.heap.get? b = some o ∧ H' b = none := fun b hb o e =>
          let z := I'.pin (b, o) (List.mem_append_right _ (List.mem_append_right _ (mem_pinsAt hb e)))
          ⟨z.1, z.2.1⟩
        have hl : (wipe σ (own.map (·.2))).length = σ8.length := by rw [← hw8, wipe_length]
        refine ⟨m', hm, i + 1, H', (I'.unpinned (pins := [])).weak hl (fun j v e => ?_), T.keep _ _ _ st7 fun b hb o e => (pin' b hb o e).1, fun b hb => ?_, w'⟩
        · rw [← hw8] at e
          exact (wipe_some e).1
        · obtain ⟨o, e, _⟩ := T.obj _ _ st7 b hb
          exact (pin' b hb o e).2
      cases b with
      | false =>
        simp only [Bool.false_eq_true, if_false] at q9 ⊢
        exact fin I9 q9
      | true =>
        simp only [if_true] at q9 ⊢
        refine thnF (pe _ s9 σ8 H9 _ I9 q9) fun z s10 ⟨yv, H10, I10, r10, acc, hD10, hz10, nx⟩ => ?_
        exact app_ok (X := X.blk s3 H3 scope ce fp) I10 hD10 hz10 r10 fun s11 I11 => fin I11 nx
  exact codeAny_compStart_list loop (T.self X.A 0 _ _ _ st4 loop)
/-- as a value -/
theorem pe_lc {elt tg iter : Expr} {ifs : List Expr} {scope : Scope} {own : List (Str × Nat)} {pos : Pos} {wi : TI} {g : TG} {tt : TT} {te : TE} (hc : X.calm = true) (hN : X.N.Nodup) (hi : PI X tg iter wi) (ok : BlkOk X.N X.env.scope scope own)
    (hg : ∀ (s : Shared) (H : Hp) (C : Addr) (cl : List (Str × Addr)) (fp : List Addr), PG (X.blk s H scope (compEnvC scope cl C X.env) fp) tg g) (ht : ∀ (s : Shared) (H : Hp) (C : Addr) (cl : List (Str × Addr)) (fp : List Addr), PTs (X.blk s H scope (compEnvC scope cl C X.env) fp) ifs tt)
    (he : ∀ (s : Shared) (H : Hp) (C : Addr) (cl : List (Str × Addr)) (fp : List Addr), PE (X.blk s H scope (compEnvC scope cl C X.env) fp) elt te) (hs : ∀ x, foldedSetIterable iter X.env x = pure x := by intro _; rfl) :
    PE X (.ListComp elt [⟨tg, iter, ifs, 0⟩] scope pos) (tLc wi g tt te (own.map (·.2))) := by
  intro pins s σ H Q I h
  rw [eval_ListComp]
  refine lc_core hc hN I hi ok hg ht he hs h fun D C s' m H' I' q hn f => ⟨m, hn, fun h'' sb => ?_⟩
  obtain ⟨f0, f1, f2, f3, f4, f5⟩ := f
  exact ⟨.ref D, H', I'.turned (t' := s'.toks) (fun b o hb e => (sb.2 b hb).trans e) f0 f1 f3 f4 f5, rfl, q⟩
/-- name = [..] on one line, the name a local -/
theorem ps_setLc {i : Nat} {y : Str} {py : Pos} {elt tg iter : Expr} {ifs : List Expr} {scope : Scope} {own : List (Str × Nat)} {pos spos : Pos} {wi : TI} {g : TG} {tt : TT} {te : TE} (hc : X.calm = true) (hN : X.N.Nodup) (hy : X.N[i]? = some y) (hyl : X.env.scope.names.lookup y = some .local)
    (hsw : swapsWith (.ListComp elt [⟨tg, iter, ifs, 0⟩] scope pos) (some (.Name y py)) spos.line X.env = pure true) (hi : PI X tg iter wi) (ok : BlkOk X.N X.env.scope scope own)
    (hg : ∀ (s : Shared) (H : Hp) (C : Addr) (cl : List (Str × Addr)) (fp : List Addr), PG (X.blk s H scope (compEnvC scope cl C X.env) fp) tg g) (ht : ∀ (s : Shared) (H : Hp) (C : Addr) (cl : List (Str × Addr)) (fp : List Addr), PTs (X.blk s H scope (compEnvC scope cl C X.env) fp) ifs tt)
    (he : ∀ (s : Shared) (H : Hp) (C : Addr) (cl : List (Str × Addr)) (fp : List Addr), PE (X.blk s H scope (compEnvC scope cl C X.env) fp) elt te) (hs : ∀ x, foldedSetIterable iter X.env x = pure x := by intro _; rfl) :
    PS X (.Assign [.Name y py] (.ListComp elt [⟨tg, iter, ifs, 0⟩] scope pos) spos) (tAsg (tLc wi g tt te (own.map (·.2))) (gName i)) := by
  intro pins s σ H D I h
  rw [exec_Assign_Name_used _ _ _ _ hsw]
  refine wpAny_bind (wpAny_standAt (wpAny_bind ?_))
  show wpAny _ X.A (do let _ ← comprehension (.ListComp elt [⟨tg, iter, ifs, 0⟩] scope pos) scope X.env (firstIterPos [⟨tg, iter, ifs, 0⟩] pos) (newList []) false (eval iter X.env) (some (assign (.Name y py) X.env))) _ _ s
  have h : tLc wi g tt te (own.map (·.2)) σ H (fun x H1 => gName i x σ H1 D.nx) := h
  refine wpAny_bind (thn (lc_core (Qf := fun _ s' => SP X pins D .next s') hc hN I hi ok hg ht he hs h fun L C s' m H' I' q hn f => ?_) fun _ s' hq => wpAny_pure (wpAny_pure hq))
  show wpAny _ _ (assign (.Name y py) X.env (.ref L)) _ _ _
  refine wpAny_assign_Name (store_ok2 (v := V.ref L) I' hN hy (.inl hyl) rfl (fun s2 I2 ⟨a, sb, ha⟩ => ?_) (.inr hyl))
  obtain ⟨f0, f1, f2, f3, f4, f5⟩ := f
  have haC : C ≠ a := by
    rcases ha with z | z
    · rw [z]; exact f1
    · exact fun e => f4 y a z e.symm
  refine ⟨m, hn.sameBut sb haC, fun h3 sb3 => ?_⟩
  exact ⟨_, H', I2.turned (t' := s2.toks) (fun b o hb e => (sb3.2 b hb).trans e) f0 f1 f3 f4 f5, q⟩
theorem sw_true {elt : Expr} {gs : List Comprehension} {scope : Scope} {pos py : Pos} {y : Str} {l : Nat} {env : Env} (hk : env.scope.kind = .function) (hy : env.scope.names.lookup y = some .local) (hl : (py.line == pos.line) = true)
    (ha : (scope.names.any fun (n, k) => n == y && (k == .local || k == .cell)) = false) : swapsWith (.ListComp elt gs scope pos) (some (.Name y py)) l env = pure true := by
  have ky : env.kindOf y = some .local := hy
  have hb : env.blockKind = .function := by unfold Env.blockKind; rw [hk]; rfl
  unfold swapsWith
  simp only [hb, ky, ha, Expr.pos, hl]
  rfl
end

/-! ### the forms one uses -/
/-- over a range: Pv by the turn and the heap (the new list at D within) -/
theorem lc_range {lo : Int} {n : Nat} {g : TG} {tt : TT} {te : TE} {vs : List Nat} {σ : St} {H1 : Hp} {D : Addr} {Qd : Hp → Prop} (Pv : Nat → Hp → Prop) (h0 : Pv 0 (upd H1 D (.lst [])))
    (hs : ∀ i H, i < n → Pv i H → g (.int (lo + i)) (wipe σ vs) H fun σ2 H2 => wipe σ2 vs = wipe σ vs ∧ tt σ2 H2 fun b H3 =>
      if b = true then te σ2 H3 fun y H4 => ∃ acc, H4 D = some (.lst acc) ∧ acc.length < sizeLine ∧ Pv (i + 1) (upd H4 D (.lst (acc ++ [y]))) else Pv (i + 1) H3) (hd : ∀ H, Pv n H → Qd H) :
    ∃ W : Nat → Nat → Hp → Prop, (∃ m, W 0 m (upd H1 D (.lst []))) ∧ ∀ i m H, W i m H →
      ((Itr lo n).stop i H ∧ Qd H) ∨ ((Itr lo n).go i H ∧ ∃ Nx : Hp → Prop, (∀ H', Nx H' → ∃ m', m' < m ∧ W (i + 1) m' H') ∧ ∀ x H', (Itr lo n).yld i H x H' → g x (wipe σ vs) H' fun σ2 H2 => wipe σ2 vs = wipe σ vs ∧ tt σ2 H2 fun b H3 =>
        if b = true then te σ2 H3 fun y H4 => ∃ acc, H4 D = some (.lst acc) ∧ acc.length < sizeLine ∧ Nx (upd H4 D (.lst (acc ++ [y]))) else Nx H3) := by
  refine ⟨fun i m H => m = n - i ∧ i ≤ n ∧ Pv i H, ⟨n, by simp, Nat.zero_le _, h0⟩, ?_⟩
  rintro i m H ⟨rfl, hi, p⟩
  by_cases hlt : i < n
  · refine .inr ⟨hlt, Pv (i + 1), fun H' p' => ⟨n - (i + 1), by omega, rfl, hlt, p'⟩, fun x H' y => ?_⟩
    obtain ⟨e, y⟩ := y
    subst e y
    exact hs i _ hlt p
  · have e : i = n := by omega
    subst e
    exact .inl ⟨Nat.le_refl _, hd H p⟩
/-- over a list that the block leaves as it is -/
theorem lc_list {K : PySem.W.Frag} {a : Addr} {xs : List V} {g : TG} {tt : TT} {te : TE} {vs : List Nat} {σ : St} {H1 : Hp} {D : Addr} {Qd : Hp → Prop} (Pv : Nat → Hp → Prop) (h0 : Pv 0 (upd H1 D (.lst []))) (hl : ∀ i H, i ≤ xs.length → Pv i H → SqL K H a xs)
    (hs : ∀ i x H, xs[i]? = some x → Pv i H → g x (wipe σ vs) H fun σ2 H2 => wipe σ2 vs = wipe σ vs ∧ tt σ2 H2 fun b H3 =>
      if b = true then te σ2 H3 fun y H4 => ∃ acc, H4 D = some (.lst acc) ∧ acc.length < sizeLine ∧ Pv (i + 1) (upd H4 D (.lst (acc ++ [y]))) else Pv (i + 1) H3) (hd : ∀ H, Pv xs.length H → Qd H) :
    ∃ W : Nat → Nat → Hp → Prop, (∃ m, W 0 m (upd H1 D (.lst []))) ∧ ∀ i m H, W i m H →
      ((Itl K a).stop i H ∧ Qd H) ∨ ((Itl K a).go i H ∧ ∃ Nx : Hp → Prop, (∀ H', Nx H' → ∃ m', m' < m ∧ W (i + 1) m' H') ∧ ∀ x H', (Itl K a).yld i H x H' → g x (wipe σ vs) H' fun σ2 H2 => wipe σ2 vs = wipe σ vs ∧ tt σ2 H2 fun b H3 =>
        if b = true then te σ2 H3 fun y H4 => ∃ acc, H4 D = some (.lst acc) ∧ acc.length < sizeLine ∧ Nx (upd H4 D (.lst (acc ++ [y]))) else Nx H3) := by
  refine ⟨fun i m H => m = xs.length - i ∧ i ≤ xs.length ∧ Pv i H, ⟨xs.length, by simp, Nat.zero_le _, h0⟩, ?_⟩
  rintro i m H ⟨rfl, hi, p⟩
  have q := hl i H hi p
  by_cases hlt : i < xs.length
  · refine .inr ⟨⟨xs, xs[i], q, by simp [hlt]⟩, Pv (i + 1), fun H' p' => ⟨xs.length - (i + 1), by omega, rfl, hlt, p'⟩, fun x H' y => ?_⟩
    obtain ⟨e, y⟩ := y
    subst e
    exact hs i x _ (y xs q) p
  · have e : i = xs.length := by omega
    subst e
    exact .inl ⟨⟨xs, q, Nat.le_refl _⟩, hd H p⟩
def blkC (N : List Str) (sc scope : Scope) (own : List (Str × Nat)) : Bool :=
  (match scope.kind with | .function => true | _ => false) && (scope.names.all fun y => decide (scope.names.lookup y.1 = some y.2)) && (own.all fun p => decide (N[p.2]? = some p.1)) &&
    (scope.names.all fun y => match y.2 with
      | .free => (match sc.names.lookup y.1 with | some .cell => true | some .free => true | _ => false)
      | .local => decide (y.1 ∈ own.map (·.1)) || decide (y.1 ∉ N)
      | .cell => decide (y.1 ∈ own.map (·.1)) || decide (y.1 ∉ N)
      | _ => true)
theorem blkOk_by {N : List Str} {sc scope : Scope} {own : List (Str × Nat)} (h : blkC N sc scope own = true) : BlkOk N sc scope own := by
  unfold blkC at h
  simp only [Bool.and_eq_true, List.all_eq_true, decide_eq_true_eq] at h
  obtain ⟨⟨⟨h1, h2⟩, h3⟩, h4⟩ := h
  refine ⟨?_, h2, h3, fun y hy e => ?_, fun y hy e => ?_⟩
  · split at h1
    · assumption
    · cases h1
  · have q := h4 y hy
    simp only [e] at q
    split at q <;> first | exact .inl (by assumption) | exact .inr (by assumption) | cases q
  · have q := h4 y hy
    rcases e with e | e <;> (simp only [e, Bool.or_eq_true, decide_eq_true_eq] at q; exact q)
end L2

namespace L2
open PySem PySem.Spec PyProof.Rows

section
variable {prog : Program} {w : World} {A : Around} {R : Result → Shared → Prop} {s : Shared} {elt t0 i0 t1 i1 : Expr} {ifs0 ifs1 : List Expr} {scope : Scope} {pos : Pos} {it acc : Value} {env : Env}
end

section
variable {X : Cx}
end
end L2

namespace L2
open PySem PySem.Spec PyProof.Rows

/-! ### lists of pairs as tables -/
section
variable {κ : Type} [DecidableEq κ]
end


/-! ### a tracked dict, its keys ints and texts or tuples of these -/
section
variable {P : Program} {w : World} {H : Hp} {h : Heap} {a : Addr}
end

section
variable {X : Cx} {pins : List (Addr × Obj)} {σ : St} {H : Hp} {s : Shared} {a : Addr} {y v : V} {u r : Value} {o : Option V} {A : Around} {E : Value → Shared → Prop}

end

section
variable {X : Cx} {pins : List (Addr × Obj)} {σ : St} {H : Hp} {s : Shared} {a : Addr} {kvs : List (Key × V)} {k : Key} {u : Value} {A : Around} {E : Value → Shared → Prop}
end


/-! ### readings and rules -/
section
variable {X : Cx} {o i e value : Expr} {pos pos' tpos : Pos} {td ty tv : TE}
end


/-! ### displays -/
section
variable {X : Cx} {pos : Pos}
end

/-! ### methods -/
section
variable {X : Cx} {pins : List (Addr × Obj)} {σ : St} {H : Hp} {s : Shared} {a : Addr} {y d : V} {u r : Value} {o : Option V} {A : Around} {E : Value → Shared → Prop}
end

section
variable {X : Cx} {o e f : Expr} {apos cpos : Pos} {td ty tx : TE}
end

/-! ### dict(d): a copy -/
section
variable {X : Cx} {pins : List (Addr × Obj)} {σ : St} {H : Hp} {s : Shared} {a : Addr} {kvs : List (Key × V)} {A : Around} {E : Value → Shared → Prop}
end


section
variable {X : Cx} {pins : List (Addr × Obj)} {σ : St} {H : Hp} {s : Shared} {a : Addr} {y : V} {u : Value} {A : Around} {E : Value → Shared → Prop}
end
end L2

namespace L2
open PySem PySem.Spec PyProof.Rows

section
variable {prog : Program} {w : World} {A : Around} {E : Value → Shared → Prop}
end

section
variable {X : Cx}
end
end L2

namespace L2
open PySem PySem.Spec PyProof.Rows

section
variable {X : Cx} {pins : List (Addr × Obj)} {σ : St} {H : Hp} {s : Shared} {h' : Heap}
/-- several records of ours have turned -/
theorem Inv.turnedL {t' : Nat} {ch : List Addr} (I : Inv X pins σ H s) (k : ∀ b o, b ∉ ch → s.heap.get? b = some o → h'.get? b = some o) (hf : ∀ b ∈ ch, FpOk X pins H b) : Inv X pins σ H { s with heap := h', toks := t' } := by
  have nit : ∀ b u, H b = some u → b ∉ ch := fun b u e z => by
    have q := (hf b z).1
    rw [q] at e; cases e
  refine I.step (g' := s.gens) (d' := s.drawn) (ch := ch) (fun b hb => ⟨(hf b hb).2.2.2.1, (hf b hb).2.1, (hf b hb).2.2.2.2.1, (hf b hb).2.2.2.2.2⟩) (fun b o _ _ hc e _ => k b o hc e) (fun b o _ _ hc e _ => ⟨o.slots, k b o hc e⟩)
    (fun _ _ _ _ n => n) (fun b o hc e => ⟨o, k b o hc e⟩) (fun _ _ e => e) (fun _ _ _ e => e) (fun b ps e => ⟨#[], by rw [e]; simp⟩) (fun m hm => ?_) (fun b u e => ?_) I.bare
  · obtain ⟨o, es, ep, ho, r⟩ := hm
    exact ⟨o, es, ep, k _ o (fun z => (hf _ z).2.1 rfl) ho, r⟩
  · refine (I.hok b u e).stay (fun c v hc q => k c v ?_ q) (fun _ q => q) fun _ _ q => q
    rcases hc with z | z
    · rw [z]; exact nit b u e
    · exact nit c _ z
/-- .. and one new object is laid -/
theorem Inv.turnedNew {t' : Nat} {ch : List Addr} {T : Addr} {ob : HO} (I : Inv X pins σ H s) (k : ∀ b o, b ∉ ch → s.heap.get? b = some o → h'.get? b = some o) (hf : ∀ b ∈ ch, FpOk X pins H b) (hT : s.heap.objs.size ≤ T)
    (new : ObjOk X.prog X.w (upd H T ob) h' T ob) : Inv X pins σ (upd H T ob) { s with heap := h', toks := t' } := by
  have hn : H T = none := I.hok.fresh hT
  have nit : ∀ b u, H b = some u → b ∉ ch := fun b u e z => by
    have q := (hf b z).1
    rw [q] at e; cases e
  refine I.step (g' := s.gens) (d' := s.drawn) (ch := ch) (fun b hb => ⟨(hf b hb).2.2.2.1, (hf b hb).2.1, (hf b hb).2.2.2.2.1, (hf b hb).2.2.2.2.2⟩) (fun b o _ _ hc e _ => k b o hc e) (fun b o _ _ hc e _ => ⟨o.slots, k b o hc e⟩)
    (fun b o _ e n => ?_) (fun b o hc e => ⟨o, k b o hc e⟩) (fun b xs e => ?_) (fun b o u e => ?_) (fun b ps e => ⟨#[], ?_⟩) (fun m hm => ?_) (fun b u e => ?_) I.bare
  · rw [upd_ne (Nat.ne_of_lt (Nat.lt_of_lt_of_le (Heap.lt_size e) hT))]; exact n
  · rw [upd_ne (ne_of_none e hn)]; exact e
  · rw [upd_ne (ne_of_none e hn)]; exact e
  · rw [upd_ne (ne_of_none e hn), e]; simp
  · obtain ⟨o, es, ep, ho, r⟩ := hm
    exact ⟨o, es, ep, k _ o (fun z => (hf _ z).2.1 rfl) ho, r⟩
  · by_cases hb : b = T
    · subst hb
      rw [upd_same] at e
      cases e
      exact new
    · rw [upd_ne hb] at e
      refine (I.hok b u e).stay (fun c v hc q => k c v ?_ q) (fun c q => by rw [upd_ne (ne_of_none q hn)]; exact q) fun c xs q => by rw [upd_ne (ne_of_none q hn)]; exact q
      rcases hc with z | z
      · rw [z]; exact nit b u e
      · exact nit c _ z

/-! ### locking a thing while a statement runs -/
end
section
variable {X : Cx}
/-! ### one iterator just laid -/
end

/-! ### range with a step -/
section
variable {X : Cx} {tg : Expr}
end
/-! ### reversed(list) -/
section
variable {X : Cx} {tg : Expr}
end

/-! ### a str -/
/-! ### a dict's keys: any dict's entries -/
section
variable {prog : Program} {w : World} {A : Around} {E : Value → Shared → Prop} {s : Shared}
end

/-! ### a locked dict -/
section
variable {X : Cx} {pins : List (Addr × Obj)} {σ : St} {H : Hp} {s : Shared} {d : Addr} {o : Obj}
end

section
variable {P : Program} {w : World} {K : PySem.W.Frag} {tg : Expr} {d : Addr} {o : Obj} {es : Array DictEntry} {ep : Nat}
end

/-! ### for k in d, d.keys(), d.values(), d.items() -/
section
variable {X : Cx} {tg e : Expr} {td : TE} {apos cpos : Pos}
end

/-! ### enumerate(list) -/
/-! ### zip(list, list) -/
theorem boot_zip5 : bootBuiltins "zip" = some (.type "zip") := by decide +kernel
/-- the lists at a and b as they stand at each turn, the items in new pairs -/
def Itz (K : PySem.W.Frag) (a b : Addr) : It :=
  ⟨fun i H => ∃ (xs ys : List V) (x y : V), SqL K H a xs ∧ SqL K H b ys ∧ xs[i]? = some x ∧ ys[i]? = some y,
    fun i H v H' => ∃ T x y, v = .ref T ∧ H T = none ∧ H' = upd H T (.tup [x, y]) ∧ (∀ xs, SqL K H a xs → xs[i]? = some x) ∧ ∀ ys, SqL K H b ys → ys[i]? = some y,
    fun i H => ∃ xs ys : List V, SqL K H a xs ∧ SqL K H b ys ∧ (xs.length ≤ i ∨ ys.length ≤ i)⟩
theorem turn_zip {P : Program} {w : World} {K : PySem.W.Frag} {elts : List Expr} {kk : Nat} {tpos : Pos} {a b z TI TO i1 i2 : Addr} (D : ZipApart z TI TO i1 i2 a b) :
    Turn P w K (.Tuple elts kk tpos) (Itz K a b) [z, TI, TO, i1, i2] z (fun i h => IsZip h z TI TO .none ∧ IsPair h TI (.ref i1) (.ref i2) ∧ (∃ x y, IsPair h TO x y) ∧ h.IsListIter i1 a i ∧ h.IsListIter i2 b i) where
  mem := by simp
  obj := fun i h st c hc => by
    obtain ⟨hz, hTI, ⟨x, y, hTO⟩, ⟨o1, e1, _, d1⟩, ⟨o2, e2, _, d2⟩⟩ := st
    have e' : c = z ∨ c = TI ∨ c = TO ∨ c = i1 ∨ c = i2 := by simpa using hc
    rcases e' with q | q | q | q | q
    · rw [q]; exact ⟨_, hz, fun v q => nomatch q⟩
    · rw [q]; exact ⟨_, hTI, fun v q => nomatch q⟩
    · rw [q]; exact ⟨_, hTO, fun v q => nomatch q⟩
    · rw [q]; exact ⟨o1, e1, fun v q => by rw [d1] at q; cases q⟩
    · rw [q]; exact ⟨o2, e2, fun v q => by rw [d2] at q; cases q⟩
  keep := fun i h h' st k => by
    obtain ⟨hz, hTI, ⟨x, y, hTO⟩, h1, h2⟩ := st
    exact ⟨k z (by simp) _ hz, k TI (by simp) _ hTI, ⟨x, y, k TO (by simp) _ hTO⟩, h1.at fun o q => k i1 (by simp) o q, h2.at fun o q => k i2 (by simp) o q⟩
  item := by
    intro X hP hw hK hc i pins s σ H E I hf st hg
    subst hP hw hK
    obtain ⟨hz, hTI, ⟨x0, y0, hTO⟩, h1, h2⟩ := st
    obtain ⟨xs, ys, x, y, hqx, hqy, hx, hy⟩ := hg
    obtain ⟨its, rv, p, _⟩ := I.list hqx
    obtain ⟨its2, rv2, p2, _⟩ := I.list hqy
    obtain ⟨u, hu, ru⟩ := rv.get hx
    obtain ⟨u2, hu2, ru2⟩ := rv2.get hy
    have hzl : z < s.heap.objs.size := Heap.lt_size hz
    refine wpAny_pyNext_zip_item D hz hTI hTO h1 h2 p.isList p2.isList (x := u) (y := u2) (by simpa using hu) (by simpa using hu2) fun h' z' TO' h1' h2' hT hsz hk => ?_
    refine ⟨_, rfl, wpAny_letOwnedTupleGo_zip (s := { s with heap := h' }) z' fun h'' z'' sb => ?_⟩
    have hT2 : h''.get? s.heap.objs.size = some { cls := .type "tuple", data := .seq #[u, u2] } := (sb.2 _ (Nat.ne_of_gt hzl)).trans hT
    have new : ObjOk X.prog X.w (upd H s.heap.objs.size (.tup [x, y])) h'' s.heap.objs.size (.tup [x, y]) :=
      ⟨by show 2 ≤ sizeLine; decide, [u, u2], .cons ru (.cons ru2 .nil), ⟨_, hT2, rfl, _, rfl⟩⟩
    have I1 : Inv X pins σ (upd H s.heap.objs.size (.tup [x, y])) { s with heap := h'' } :=
      I.turnedNew (t' := s.toks) (ch := [z, TI, TO, i1, i2]) (fun c o hb q => (sb.2 c (fun q' => hb (by simp [q']))).trans (hk c o (fun q' => hb (by simp [q'])) (fun q' => hb (by simp [q'])) (fun q' => hb (by simp [q'])) (fun q' => hb (by simp [q'])) q)) hf (Nat.le_refl _) new
    refine ⟨.ref s.heap.objs.size, _, I1, rfl, ⟨_, x, y, rfl, I.hok.fresh (Nat.le_refl _), rfl, fun l hl => by rw [I.list_inj hl hqx]; exact hx, fun l hl => by rw [I.list_inj hl hqy]; exact hy⟩, ⟨z'', ?_, ⟨u, u2, ?_⟩, ?_, ?_⟩, fun c hcm => ?_⟩
    · exact (sb.2 _ D.TIz).trans (hk _ _ D.TIz D.TITO D.TIi1 D.TIi2 hTI)
    · exact (sb.2 _ D.TOz).trans TO'
    · exact h1'.at fun o q => (sb.2 _ D.i1z).trans q
    · exact h2'.at fun o q => (sb.2 _ D.i2z).trans q
    · have hlt : c < s.heap.objs.size := by
        have e' : c = z ∨ c = TI ∨ c = TO ∨ c = i1 ∨ c = i2 := by simpa using hcm
        rcases e' with q | q | q | q | q
        · rw [q]; exact hzl
        · rw [q]; exact Heap.lt_size hTI
        · rw [q]; exact Heap.lt_size hTO
        · rw [q]; obtain ⟨_, e1, _⟩ := h1; exact Heap.lt_size e1
        · rw [q]; obtain ⟨_, e2, _⟩ := h2; exact Heap.lt_size e2
      rw [upd_ne (Nat.ne_of_lt hlt)]
      exact (hf c hcm).1
  done := by
    intro X hP hw hK hc i pins s σ H E I hf st hg
    subst hP hw hK
    obtain ⟨hz, hTI, ⟨x0, y0, hTO⟩, h1, h2⟩ := st
    obtain ⟨xs, ys, hqx, hqy, hend⟩ := hg
    obtain ⟨its, rv, p, _⟩ := I.list hqx
    obtain ⟨its2, rv2, p2, _⟩ := I.list hqy
    have l1 := rv.length
    have l2 := rv2.length
    have he : its.toArray[i]? = none ∨ its2.toArray[i]? = none := by
      rcases hend with q | q
      · exact .inl (by simp; omega)
      · exact .inr (by simp; omega)
    exact wpAny_pyNext_zip_end (I.ok.hd hc) D hz hTI hTO h1 h2 p.isList p2.isList he fun h' hk => ⟨rfl, I.turnedL (t' := s.toks) (ch := [z, TI, TO, i1, i2]) (fun c o hb q =>
      hk c o (fun q' => hb (by simp [q'])) (fun q' => hb (by simp [q'])) (fun q' => hb (by simp [q'])) (fun q' => hb (by simp [q'])) q) hf⟩
  self := fun A i s Q E st h => wpAny_pyIter_zip st.1 h
def iZip (K : PySem.W.Frag) (ta : TA) : TI := fun σ H R => ta σ H fun vs H1 => ∃ a b xs ys, vs = [.ref a, .ref b] ∧ SqL K H1 a xs ∧ SqL K H1 b ys ∧ R (Itz K a b) H1
theorem pi_zip {X : Cx} {e e2 : Expr} {ta : TA} {p pos tpos : Pos} {elts : List Expr} {kk : Nat} (hg : Gl X "zip") (hm : X.mg "zip" = none) (ha : PA X [e, e2] ta)
    (hs : starEach [e, e2] X.env = (false, eval e X.env) :: starEach [e2] X.env := by rfl) (hpl : (backTo pos (starEach [e2] X.env)).any (·.1) = false := by rfl) :
    PI X (.Tuple elts kk tpos) (.Call (.Name "zip" p) [e, e2] [] pos) (iZip X.K ta) := by
  intro pins s σ H R I h
  refine Call_ (ld_blt I hg hm boot_zip5 (PyProof.Rows.callWith_type1 (thn (ha pos pins s σ H _ I h) fun us s1 ⟨vs, H1, I1, r1, q1⟩ => ?_) hs hpl))
  obtain ⟨a, b, xs, ys, ex, hqx, hqy, q⟩ := q1
  subst ex
  cases r1 with
  | cons r rr =>
    cases rr with
    | cons r' rr =>
      cases rr
      cases r
      cases r'
      obtain ⟨its, rv, p1, _⟩ := I1.list hqx
      obtain ⟨its2, rv2, p2, _⟩ := I1.list hqy
      have la : a < s1.heap.objs.size := p1.lt
      have lb : b < s1.heap.objs.size := p2.lt
      refine call_zip_2 p1.isList p2.isList fun h' hz hTI hTO h1 h2 hsz hk => wpAny_pyIter_zip hz ?_
      have I2 : Inv X pins σ H1 { s1 with heap := h' } := I1.kept (t' := s1.toks) hk
      refine ⟨s1.heap.objs.size + 4, [s1.heap.objs.size + 4, s1.heap.objs.size + 2, s1.heap.objs.size + 3, s1.heap.objs.size, s1.heap.objs.size + 1], _, _, H1, rfl, I2, turn_zip (PySem.W.ktu_apart s1.heap.objs.size a b la lb), ⟨hz, hTI, ⟨_, _, hTO⟩, h1, h2⟩, fun c hcm => ?_, q⟩
      have e' : c = s1.heap.objs.size + 4 ∨ c = s1.heap.objs.size + 2 ∨ c = s1.heap.objs.size + 3 ∨ c = s1.heap.objs.size ∨ c = s1.heap.objs.size + 1 := by simpa using hcm
      have hle : s1.heap.objs.size ≤ c := by
        rcases e' with z | z | z | z | z
        · rw [z]; exact Nat.le_add_right _ _
        · rw [z]; exact Nat.le_add_right _ _
        · rw [z]; exact Nat.le_add_right _ _
        · rw [z]; exact Nat.le_refl _
        · rw [z]; exact Nat.le_add_right _ _
      exact I1.fpOk hle (I1.hok.fresh hle)
end L2

section 
namespace Bits
open PySem PyProof.Rows

end Bits
end 

section 
namespace TL
open PySem PySem.Builtin PySem.Builtin.Str PySem.StrLaws

/-! ### the list functions -/
/-! ### the model's split and partition are these -/
/-! ### computing spl and par -/
/-! ### digits -/
/-! ### words: x.split() -/
end TL
end 

namespace L2
open PySem PySem.Spec PyProof.Rows

section
variable {X : Cx} {pins : List (Addr × Obj)} {σ : St} {H : Hp} {s : Shared} {Q : VK}
end

section
variable {X : Cx}

/-! ### of a text alone -/
/-! ### of a text and a text -/
end

section
variable {X : Cx} {o e : Expr} {to te : TE}
end
end L2

namespace L2
open PySem PySem.Spec PyProof.Rows

section
variable {X : Cx}
end

/-! ### slices of a text -/
end L2

namespace Att
open PySem PySem.W PySem.Calls PyProof.Rows

/-! ### the script -/
/-! ### the attachment: holds_open's last premise (the goal 'hc' behind k_head) from a wpAny of the law's body -/
/-! ### rules over ANY heap (no ledger) from facts about the written part K: the library's own take a ledger (News) for what they write -/
section
variable {prog : Program} {w : World} {A : Around} {E : Value → Shared → Prop} {s : Shared} {K : Frag}

/-! the whole heap as the ledger: makes every rule that writes through a ledger a rule over any heap -/
end
end Att

namespace L2
open PySem PySem.Spec PyProof.Rows

end L2

namespace L2
open PySem PySem.Spec PyProof.Rows

end L2

/- THE LAST THEOREM (shape; LID, My.* are yours):
   My.Adr: a structure of the addresses that your layer names (classes, functions); My.Txt K t: a structure (Prop) of the equations over K;
   My.txt_mk : {K} {implicit addresses ..} (e1 : nsIn K mainGlobals "law" = some (some (.ref f))) (e2 : K.lookup f = some ⟨oc, od, .func (fnOf "law" "law" params body scope dV kV doc pm an cdv ct), sl⟩) (e3 : codeIn K cdv "law" = true) .. : ∃ t, My.Txt K t

set_option maxRecDepth 100000 in
set_option maxHeartbeats 0 in
theorem PySem.Challenge.cw_LID_holds : PySem.Challenge.rw_LID.Holds := by
  w_on; o_law; k_head; (case hw => w_witness2)
  k_fill
  refine L2.walk_of (l := PySem.Challenge.rw_LID) (n := 63) (k := 40) (x := "script") (CX := fun w => ..) (sp := fun _ => My.sp_law) rfl (by decide) rfl ⟨rfl, by decide, by decide⟩ (fun w h Y => PySem.W.kIn_of Y) ?F ?S ?C
  case F =>
    intro w mg fa h KX G hmg
    have T : ∃ t, My.Txt (L2.KOf KX) t := by
      dsimp only [L2.KOf]                          -- K must stand as «<heap const> w.params» for k_is
      refine' My.txt_mk ?e1 ?e2 ?e3 ..
      (case e1 => PySem.W.k_is)                    -- in the order: a name -> its address -> its object -> its parts
      (case e2 => PySem.W.k_is)
      ..
    obtain ⟨t, T⟩ := T
    have e0 := hmg.symm.trans (PySem.W.mg_of KX G T.law)
    cases e0                                       -- fa is the law's own address
    exact ⟨_, fun s u => .of_eq rfl, fun base kb nb => My.law_fn T kb nb⟩     -- if «.of_eq rfl» comes too early: refine' ⟨_, ?b, fun base kb nb => My.law_fn T kb nb⟩; exact fun s u => .of_eq rfl
  case S => exact fun w H a ns hl hO hS => ..
  case C => exact ..
(the tactic k_is has no namespace: write k_is) -/

/-! SHORT WORDS over the layer: a def of the text, its body, what a loop and a test want. -/
namespace L2
open PySem PySem.Spec PyProof.Rows

/-! ### the text by places -/
/-- the j-th statement of a class's body -/
def inClass (s : Stmt) (j : Nat) : Stmt := match s with
  | .ClassDef _ _ _ body _ _ _ _ _ _ _ => body.getD j (.Pass ⟨0, 0, 0, 0⟩)
  | _ => .Pass ⟨0, 0, 0, 0⟩
def defArgs (s : Stmt) : Arguments := match s with
  | .FunctionDef _ a _ _ _ _ _ _ _ _ => a
  | _ => { posonlyargs := [], args := [], vararg := none, kwonlyargs := [], kw_defaults := [], kwarg := none, defaults := [] }
def defBody (s : Stmt) : List Stmt := match s with
  | .FunctionDef _ _ b _ _ _ _ _ _ _ => b
  | _ => []
def defScope (s : Stmt) : Scope := match s with
  | .FunctionDef _ _ _ _ _ _ sc _ _ _ => sc
  | _ => { kind := .function, names := [], isGenerator := false, isCoroutine := false }

/-! ### no exception leaves a def -/
abbrev CX0 : CXT := fun _ _ _ _ _ _ => False
abbrev E0 : XK := fun _ _ _ => False
theorem pass0 {X : Cx} : Passes CX0 X E0 := fun _ _ _ _ _ _ _ h => h.elim

/-! ### a def (or method) of the text as it stands behind the top -/
structure Fun (K : PySem.W.Frag) (x qual : Str) (st : Stmt) (f : Addr) (fd : FuncData) : Prop where
  ex : ∃ (oc : Value) (od : Option Addr) (kV doc pm : Value) (an : Option Addr) (cdv ct : Value) (osl : Array (Option Value)),
    fd = PySem.W.fnOf x qual (defArgs st) (defBody st) (defScope st) .none kV doc pm an cdv ct ∧ K.lookup f = some ⟨oc, od, .func fd, osl⟩ ∧ PySem.W.codeIn K cdv qual = true
  kp : PySem.W.keepIn K (.ref f) = true
section
variable {P : Program} {w : World} {K : PySem.W.Frag} {mg : Str → Option Value} {base : Heap}
/-- THE RULE for a def: its body as a term of rules, and the reading of that term -/
theorem Fun.ok {x qual : Str} {st : Stmt} {f : Addr} {fd : FuncData} {N ps : List Str} {k : Nat} {sp : Sp} (F : Fun K x qual st f fd) (S : FnScope N ps (defScope st)) (len : ∀ vs H Q E, sp vs H Q E → vs.length = ps.length)
    (hbody : ∀ (cdv : Value) (A : Around) (outer : List Env) (s : Shared) (H : Hp) (vs : List V) (Q : VK) (E : XK), Room k (A.deeper (envOfC qual (defScope st) s.heap.objs.size f cdv)) → sp vs H Q E →
      ∃ t, PSs (cxOf CX0 P w K mg base N qual (defScope st) f cdv A outer s H E).nox (defBody st) t ∧ t { nx := fun _ H' => Q .non H', rt := Q } (start N vs) H) : FnOk P w K mg base CX0 (k + 1) f fd ps sp := by
  obtain ⟨oc, od, kV, doc, pm, an, cdv, ct, osl, rfl, lk, hcd⟩ := F.ex
  refine fn_of lk hcd S len fun A outer s H vs Q E hr hsp => ?_
  obtain ⟨t, h, q⟩ := hbody cdv A outer s H vs Q E hr hsp
  exact ⟨t, h.nox, q⟩
/-- how its arguments bind (no defaults): h is «fun _ _ _ _ _ _ us hl => match us, hl with | [_, _], _ => rfl», one _ a parameter -/
theorem Fun.binds {x qual : Str} {st : Stmt} {f : Addr} {fd : FuncData} {ps : List Str} (F : Fun K x qual st f fd)
    (h : ∀ (kV doc pm : Value) (an : Option Addr) (cdv ct : Value) (us : List Value), us.length = ps.length → bindArgs (PySem.W.fnOf x qual (defArgs st) (defBody st) (defScope st) .none kV doc pm an cdv ct) ⟨us, []⟩ = pure (ps.zip us)) : Binds K fd ps [] := by
  obtain ⟨oc, od, kV, doc, pm, an, cdv, ct, osl, rfl, lk, hcd⟩ := F.ex
  exact .all (h kV doc pm an cdv ct)
theorem fun_mk {x qual : Str} {st : Stmt} {f : Addr} {oc : Value} {od an : Option Addr} {osl : Array (Option Value)} {kV doc pm cdv ct : Value} (l : K.lookup f = some ⟨oc, od, .func (PySem.W.fnOf x qual (defArgs st) (defBody st) (defScope st) .none kV doc pm an cdv ct), osl⟩)
    (c : PySem.W.codeIn K cdv qual = true) (k : PySem.W.keepIn K (.ref f) = true) : Fun K x qual st f (PySem.W.fnOf x qual (defArgs st) (defBody st) (defScope st) .none kV doc pm an cdv ct) := ⟨⟨oc, od, kV, doc, pm, an, cdv, ct, osl, rfl, l, c⟩, k⟩
end
theorem small1000 {n : Nat} (h : n ≤ 1000) : n < sizeLine := Nat.lt_of_le_of_lt h (by decide)

/-! ### expressions in short: the name that stands in the i-th slot -/
section
variable {X : Cx}
theorem pv (i : Nat) {x : Str} {pos : Pos} (hN : X.N[i]? = some x := by rfl) (hv : Vis X.env.scope x := by first | exact Or.inl rfl | exact Or.inr (Or.inl rfl) | exact Or.inr (Or.inr rfl)) (hd : (x == ("__debug__" : Str)) = false := by decide)
    (hcd : (x == ("__classdict__" : Str)) = false := by decide) : PE X (.Name x pos) (tVar i) := pe_var hN hv hd hcd
end

/-! ### tests -/
theorem iteF {A B : Prop} (h : B) : if false = true then A else B := by
  rw [if_neg Bool.false_ne_true]
  exact h
theorem iteT {A B : Prop} (h : A) : if true = true then A else B := by
  rw [if_pos rfl]
  exact h
theorem ite2 {c A B : Prop} [Decidable c] (h1 : c → A) (h2 : ¬ c → B) : if c then A else B := by
  by_cases h : c
  · rw [if_pos h]
    exact h1 h
  · rw [if_neg h]
    exact h2 h
/-! ### heaps -/
/-- all that was tracked is as it was -/
def Same (H H' : Hp) : Prop := ∀ b o, H b = some o → H' b = some o
theorem Same.refl (H : Hp) : Same H H := fun _ _ h => h
theorem Same.trans {H H1 H2 : Hp} (a : Same H H1) (b : Same H1 H2) : Same H H2 := fun c o h => b c o (a c o h)
theorem Same.free {H H' : Hp} (e : Same H H') {l : Addr} (h : H' l = Option.none) : H l = Option.none := by
  cases q : H l with
  | none => rfl
  | some o =>
    rw [e l o q] at h
    cases h
theorem Same.seq {K : PySem.W.Frag} {H H' : Hp} {a : Addr} {xs : List V} (e : Same H H') (h : SqL K H a xs) : SqL K H' a xs := by
  rcases h with (h | ⟨o, h⟩) | h
  · exact .inl (.inl (e _ _ h))
  · exact .inl (.inr ⟨o, e _ _ h⟩)
  · exact .inr h

/-! ### a dict's pairs: keys that differ -/
section
variable {κ : Type} [DecidableEq κ]
end
/-! ### lists -/
theorem at_of {xs : List V} {z : Int} {j : Nat} {v : V} (e : z = (j : Int)) (h : xs[j]? = some v) : atI xs z = some v := by
  rw [e]
  exact atI_nat h
/-- a new instance and its __init__ leave all that was tracked as it was -/
theorem Same.made {H H1 : Hp} {x dx C : Addr} (nx : H x = Option.none) (nd : H dx = Option.none) (k : ∀ b o, (upd (upd H dx (.own x)) x (.ins C dx [])) b = some o → b ≠ x → H1 b = some o) : Same H H1 := fun b o e =>
  k b o (by rw [upd_ne (ne_of_none e nx), upd_ne (ne_of_none e nd)]; exact e) (ne_of_none e nx)
end L2


set_option linter.all false
set_option Elab.async false
namespace Fs
open Sw96
variable {f : Forest}
/-- a is no later than b (none: never) -/
def Le (a b : Option Nat) : Prop := ∀ y, b = some y → ∃ x, a = some x ∧ x ≤ y
theorem Le.refl (a : Option Nat) : Le a a := fun y e => ⟨y, e, Nat.le_refl _⟩
theorem Le.trans {a b c : Option Nat} (h : Le a b) (g : Le b c) : Le a c := fun y e => by
  obtain ⟨x, e1, h1⟩ := g y e
  obtain ⟨z, e2, h2⟩ := h x e1
  exact ⟨z, e2, Nat.le_trans h2 h1⟩
theorem sooner_left (a b : Option Nat) : Le (sooner a b) a := by
  intro y e
  subst e
  cases b with
  | none => exact ⟨y, rfl, Nat.le_refl _⟩
  | some z => exact ⟨min y z, rfl, Nat.min_le_left _ _⟩
theorem sooner_right (a b : Option Nat) : Le (sooner a b) b := by
  intro y e
  subst e
  cases a with
  | none => exact ⟨y, rfl, Nat.le_refl _⟩
  | some z => exact ⟨min z y, rfl, Nat.min_le_right _ _⟩
theorem sooner_or (a b : Option Nat) : sooner a b = a ∨ sooner a b = b := by
  cases a with
  | none => cases b <;> exact .inr rfl
  | some x =>
    cases b with
    | none => exact .inl rfl
    | some y =>
      show some (min x y) = some x ∨ some (min x y) = some y
      by_cases h : x ≤ y
      · rw [Nat.min_eq_left h]; exact .inl rfl
      · rw [Nat.min_eq_right (by omega)]; exact .inr rfl
theorem foldl_start {α : Type} (g : α → Option Nat) : ∀ (l : List α) (m : Option Nat), Le (l.foldl (fun m x => sooner m (g x)) m) m
  | [], m => Le.refl m
  | x :: l, m => (foldl_start g l (sooner m (g x))).trans (sooner_left m (g x))
theorem foldl_each {α : Type} (g : α → Option Nat) : ∀ (l : List α) (m : Option Nat) (x : α), x ∈ l → Le (l.foldl (fun m x => sooner m (g x)) m) (g x)
  | [], m, x, h => by cases h
  | y :: l, m, x, h => by
    rcases List.mem_cons.mp h with e | h
    · subst e
      exact (foldl_start g l _).trans (sooner_right m (g x))
    · exact foldl_each g l _ x h
theorem foldl_or {α : Type} (g : α → Option Nat) : ∀ (l : List α) (m : Option Nat), l.foldl (fun m x => sooner m (g x)) m = m ∨ ∃ x, x ∈ l ∧ l.foldl (fun m x => sooner m (g x)) m = g x
  | [], m => .inl rfl
  | y :: l, m => by
    rcases foldl_or g l (sooner m (g y)) with e | ⟨x, hx, e⟩
    · rcases sooner_or m (g y) with e2 | e2
      · exact .inl (e.trans e2)
      · exact .inr ⟨y, List.mem_cons_self .., e.trans e2⟩
    · exact .inr ⟨x, List.mem_cons_of_mem _ hx, e⟩
/-! neighbours -/
theorem mem_near {i d j : Nat} : (d, j) ∈ f.near i ↔ (d = 0 ∧ f.width ≤ i ∧ j = i - f.width) ∨ (d = 1 ∧ (i + 1) % f.width ≠ 0 ∧ i + 1 < f.places.length ∧ j = i + 1) ∨
    (d = 2 ∧ i + f.width < f.places.length ∧ j = i + f.width) ∨ (d = 3 ∧ i % f.width ≠ 0 ∧ j = i - 1) := by
  unfold Forest.near
  rw [List.mem_append, List.mem_append, List.mem_append]
  refine or_congr ?_ (or_congr ?_ (or_congr ?_ ?_))
  · split <;> simp <;> omega
  · split
    · rename_i h
      simp
      omega
    · rename_i h
      simp
      intro _ h1 h2
      exact absurd ⟨h1, h2⟩ h
  · split <;> simp <;> omega
  · split
    · rename_i h
      simp
      omega
    · rename_i h
      simp
      omega
theorem near_lt {i d j : Nat} (hi : i < f.places.length) (h : (d, j) ∈ f.near i) : j < f.places.length := by
  rcases mem_near.mp h with h | h | h | h <;> omega
/-- a neighbour's neighbour the other way -/
theorem near_back {i d j : Nat} (hw : 0 < f.width) (hi : i < f.places.length) (h : (d, j) ∈ f.near i) : ((d + 2) % 4, i) ∈ f.near j := by
  refine mem_near.mpr ?_
  rcases mem_near.mp h with ⟨h1, h2, h3⟩ | ⟨h1, h2, h3, h4⟩ | ⟨h1, h2, h3⟩ | ⟨h1, h2, h3⟩
  · subst h1
    exact .inr (.inr (.inl ⟨rfl, by omega, by omega⟩))
  · subst h1
    subst h4
    exact .inr (.inr (.inr ⟨rfl, h2, by omega⟩))
  · subst h1
    exact .inl ⟨rfl, by omega, by omega⟩
  · subst h1
    have hi0 : i ≠ 0 := by
      intro e
      rw [e, Nat.zero_mod] at h2
      exact h2 rfl
    subst h3
    exact .inr (.inl ⟨rfl, by rw [show i - 1 + 1 = i by omega]; exact h2, by omega, by omega⟩)
theorem near_dir {i d j : Nat} (h : (d, j) ∈ f.near i) : d < 4 := by
  rcases mem_near.mp h with h | h | h | h <;> omega
/-! the rounds -/
theorem better_len (b : List Nat) (t : List (Option Nat)) : (f.better b t).length = f.places.length := by
  unfold Forest.better
  rw [List.length_map, List.length_range]
def cand (f : Forest) (b : List Nat) (t : List (Option Nat)) (j : Nat) (x : Nat × Nat) : Option Nat := (t.getD x.2 none).bind fun a => (f.time b x.2 ((x.1 + 2) % 4) j).map fun c => a + c
theorem better_get (b : List Nat) (t : List (Option Nat)) {j : Nat} (hj : j < f.places.length) : (f.better b t).getD j none = (f.near j).foldl (fun m x => sooner m (cand f b t j x)) (t.getD j none) := by
  unfold Forest.better
  rw [List.getD_eq_getElem?_getD, List.getElem?_map, List.getElem?_range hj]
  rfl
theorem settle_succ (b : List Nat) : ∀ (n : Nat) (t : List (Option Nat)), f.settle b (n + 1) t = f.better b (f.settle b n t)
  | 0, _ => rfl
  | n + 1, t => by
    show f.settle b (n + 1) (f.better b t) = f.better b (f.settle b n (f.better b t))
    rw [settle_succ b n (f.better b t)]
def first (f : Forest) (b : List Nat) : List (Option Nat) := (List.range f.places.length).map fun i => if f.fires.contains i = true ∧ f.slow i ≠ 0 ∧ b.contains i = false then some 0 else none
theorem first_get (b : List Nat) {i : Nat} (hi : i < f.places.length) : (first f b).getD i none = if f.fires.contains i = true ∧ f.slow i ≠ 0 ∧ b.contains i = false then some 0 else none := by
  unfold first
  rw [List.getD_eq_getElem?_getD, List.getElem?_map, List.getElem?_range hi]
  rfl
theorem settle_down (b : List Nat) {j : Nat} (hj : j < f.places.length) : ∀ (n : Nat), Le ((f.settle b (n + 1) (first f b)).getD j none) ((f.settle b n (first f b)).getD j none) := fun n => by
  rw [settle_succ, better_get b _ hj]
  exact foldl_start _ _ _
theorem settle_mono (b : List Nat) {j : Nat} (hj : j < f.places.length) (n : Nat) : ∀ k : Nat, Le ((f.settle b (n + k) (first f b)).getD j none) ((f.settle b n (first f b)).getD j none)
  | 0 => Le.refl _
  | k + 1 => (settle_down b hj (n + k)).trans (settle_mono b hj n k)
/-! sound: what is told is a way's time -/
theorem way_lt {b : List Nat} {j x : Nat} (h : Way f b j x) : j < f.places.length := by
  induction h with
  | begins i h _ _ _ => exact h
  | goes i j d a c _ hn _ ih => exact near_lt ih hn
theorem settle_sound (b : List Nat) (hw : 0 < f.width) : ∀ (n j x : Nat), j < f.places.length → (f.settle b n (first f b)).getD j none = some x → Way f b j x
  | 0, j, x, hj, h => by
    have h' : (first f b).getD j none = some x := h
    rw [first_get b hj] at h'
    split at h'
    · rename_i c
      cases h'
      exact Way.begins j hj c.1 c.2.1 c.2.2
    · cases h'
  | n + 1, j, x, hj, h => by
    rw [settle_succ, better_get b _ hj] at h
    rcases foldl_or (cand f b (f.settle b n (first f b)) j) (f.near j) ((f.settle b n (first f b)).getD j none) with e | ⟨⟨d, i⟩, hm, e⟩
    · rw [e] at h
      exact settle_sound b hw n j x hj h
    · rw [e] at h
      unfold cand at h
      have hi := near_lt hj hm
      cases e2 : (f.settle b n (first f b)).getD i none with
      | none => rw [e2] at h; cases h
      | some a =>
        rw [e2] at h
        have h' : (f.time b i ((d + 2) % 4) j).map (fun c => a + c) = some x := h
        cases e3 : f.time b i ((d + 2) % 4) j with
        | none => rw [e3] at h'; cases h'
        | some c =>
          rw [e3] at h'
          have e4 : a + c = x := Option.some.inj h'
          subst e4
          exact Way.goes i j ((d + 2) % 4) a c (settle_sound b hw n i a hi e2) (near_back hw hj hm) e3
/-! a way by its places, the last first -/
inductive Path (f : Forest) (b : List Nat) : Nat → Nat → List Nat → Prop
  | begins (i : Nat) : i < f.places.length → f.fires.contains i = true → f.slow i ≠ 0 → b.contains i = false → Path f b i 0 [i]
  | goes (i j d a c : Nat) (l : List Nat) : Path f b i a l → (d, j) ∈ f.near i → f.time b i d j = some c → Path f b j (a + c) (j :: l)
theorem Path.lt {b : List Nat} {j x : Nat} {l : List Nat} (h : Path f b j x l) : j < f.places.length := by
  induction h with
  | begins i h _ _ _ => exact h
  | goes i j d a c l _ hn _ ih => exact near_lt ih hn
theorem Path.all {b : List Nat} {j x : Nat} {l : List Nat} (h : Path f b j x l) : ∀ k ∈ l, k < f.places.length := by
  induction h with
  | begins i h _ _ _ =>
    intro k hk
    rw [List.mem_singleton] at hk
    subst hk
    exact h
  | goes i j d a c l hp hn ht ih =>
    intro k hk
    rcases List.mem_cons.mp hk with e | e
    · subst e
      exact near_lt hp.lt hn
    · exact ih k e
/-- from a place on the way: a way to there, no later -/
theorem Path.cut {b : List Nat} {j x : Nat} {l : List Nat} (h : Path f b j x l) : ∀ k ∈ l, ∃ y l', y ≤ x ∧ Path f b k y l' ∧ l'.Sublist l := by
  induction h with
  | begins i h1 h2 h3 h4 =>
    intro k hk
    rw [List.mem_singleton] at hk
    subst hk
    exact ⟨0, [k], Nat.le_refl _, Path.begins k h1 h2 h3 h4, List.Sublist.refl _⟩
  | goes i j d a c l hp hn ht ih =>
    intro k hk
    rcases List.mem_cons.mp hk with e | e
    · subst e
      exact ⟨a + c, k :: l, Nat.le_refl _, Path.goes i k d a c l hp hn ht, List.Sublist.refl _⟩
    · obtain ⟨y, l', h1, h2, h3⟩ := ih k e
      exact ⟨y, l', by omega, h2, h3.cons _⟩
theorem way_path {b : List Nat} {j x : Nat} (h : Way f b j x) : ∃ y l, y ≤ x ∧ Path f b j y l ∧ l.Nodup := by
  induction h with
  | begins i h1 h2 h3 h4 => exact ⟨0, [i], Nat.le_refl _, Path.begins i h1 h2 h3 h4, by simp⟩
  | goes i j d a c hp hn ht ih =>
    obtain ⟨y, l, h1, h2, h3⟩ := ih
    by_cases hj : j ∈ l
    · obtain ⟨z, l', g1, g2, g3⟩ := h2.cut j hj
      exact ⟨z, l', by omega, g2, g3.nodup h3⟩
    · exact ⟨y + c, j :: l, by omega, Path.goes i j d y c l h2 hn ht, List.nodup_cons.mpr ⟨hj, h3⟩⟩
/-- so many different numbers below n are at most n -/
theorem nodup_le : ∀ (n : Nat) (l : List Nat), l.Nodup → (∀ k ∈ l, k < n) → l.length ≤ n
  | 0, [], _, _ => Nat.le_refl _
  | 0, k :: l, _, h => absurd (h k (List.mem_cons_self ..)) (by omega)
  | n + 1, l, hn, h => by
    have h1 := nodup_le n (l.erase n) (hn.erase n) fun k hk => by
      have h2 := h k (List.mem_of_mem_erase hk)
      have h3 : k ≠ n := fun e => by
        subst e
        exact (List.Nodup.not_mem_erase hn) hk
      omega
    have h4 : l.length ≤ (l.erase n).length + 1 := by
      rw [List.length_erase]
      split <;> omega
    omega
theorem path_settle {b : List Nat} {j x : Nat} {l : List Nat} (hw : 0 < f.width) (h : Path f b j x l) : ∀ m : Nat, l.length ≤ m + 1 → Le ((f.settle b m (first f b)).getD j none) (some x) := by
  induction h with
  | begins i h1 h2 h3 h4 =>
    intro m _
    have e := settle_mono b h1 0 m
    rw [Nat.zero_add] at e
    refine e.trans ?_
    show Le ((first f b).getD i none) (some 0)
    rw [first_get b h1, if_pos ⟨h2, h3, h4⟩]
    exact Le.refl _
  | goes i j d a c l hp hn ht ih =>
    intro m hm
    have hi := hp.lt
    have hj := near_lt hi hn
    have hl : 0 < l.length := by
      cases hp with
      | begins => simp
      | goes => simp
    obtain ⟨m', rfl⟩ : ∃ m', m = m' + 1 := ⟨m - 1, by simp only [List.length_cons] at hm; omega⟩
    obtain ⟨y, e1, h1⟩ := ih m' (by simp only [List.length_cons] at hm; omega) a rfl
    rw [settle_succ, better_get b _ hj]
    have hb := near_back hw hi hn
    have hd := near_dir hn
    refine (foldl_each (cand f b (f.settle b m' (first f b)) j) (f.near j) _ _ hb).trans ?_
    unfold cand
    have e5 : ((d + 2) % 4 + 2) % 4 = d := by omega
    show Le ((((f.settle b m' (first f b)).getD i none)).bind fun a => (f.time b i (((d + 2) % 4 + 2) % 4) j).map fun c => a + c) (some (a + c))
    rw [e1, e5, ht]
    intro z hz
    cases hz
    exact ⟨y + c, rfl, by omega⟩
theorem comes_le {b : List Nat} {j x : Nat} (hw : 0 < f.width) (h : Way f b j x) : ∃ y, (f.comes b).getD j none = some y ∧ y ≤ x := by
  obtain ⟨y, l, h1, h2, h3⟩ := way_path h
  have hl := nodup_le f.places.length l h3 h2.all
  obtain ⟨z, e, h4⟩ := path_settle hw h2 f.places.length (by omega) y rfl
  exact ⟨z, e, by omega⟩
theorem comes_way {b : List Nat} {j x : Nat} (hw : 0 < f.width) (hj : j < f.places.length) (h : (f.comes b).getD j none = some x) : Way f b j x := settle_sound b hw f.places.length j x hj h
/-- **what has burnt by t**: where some way takes no longer -/
theorem burnt_iff {b : List Nat} {t i : Nat} (hw : 0 < f.width) : i ∈ f.burnt b t ↔ ∃ x, x ≤ t ∧ Way f b i x := by
  unfold Forest.burnt
  rw [List.mem_filter, List.mem_range]
  constructor
  · rintro ⟨h1, h2⟩
    cases e : (f.comes b).getD i none with
    | none => rw [e] at h2; cases h2
    | some x =>
      rw [e] at h2
      exact ⟨x, of_decide_eq_true h2, comes_way hw h1 e⟩
  · rintro ⟨x, h1, h2⟩
    obtain ⟨y, e, h3⟩ := comes_le hw h2
    refine ⟨way_lt h2, ?_⟩
    rw [e]
    exact decide_eq_true (show y ≤ t by omega)
end Fs

set_option Elab.async false
namespace Fs
open Uw01
theorem better_none (a : Option Best) : better a none = a := by cases a <;> rfl
theorem none_better (a : Option Best) : better none a = a := by cases a <;> rfl
theorem better_some (x y : Best) : better (some x) (some y) = if y.lost < x.lost then some y else if x.lost < y.lost then some x else some ⟨x.lost, x.many + y.many, x.breaks⟩ := rfl
theorem better_assoc (a b c : Option Best) : better (better a b) c = better a (better b c) := by
  cases a with
  | none => rw [none_better, none_better]
  | some x =>
    cases b with
    | none => rw [better_none, none_better]
    | some y =>
      cases c with
      | none => rw [better_none, better_none]
      | some z =>
        rw [better_some x y, better_some y z]
        by_cases h1 : y.lost < x.lost
        · rw [if_pos h1]
          by_cases h2 : z.lost < y.lost
          · rw [if_pos h2, better_some, better_some, if_pos h2, if_pos (by omega)]
          · rw [if_neg h2]
            by_cases h3 : y.lost < z.lost
            · rw [if_pos h3, better_some, better_some, if_neg h2, if_pos h3, if_pos h1]
            · rw [if_neg h3, better_some, better_some, if_neg h2, if_neg h3, if_pos (show (⟨y.lost, y.many + z.many, y.breaks⟩ : Best).lost < x.lost from h1)]
        · rw [if_neg h1]
          by_cases h1' : x.lost < y.lost
          · rw [if_pos h1']
            by_cases h2 : z.lost < y.lost
            · rw [if_pos h2]
            · rw [if_neg h2]
              by_cases h3 : y.lost < z.lost
              · rw [if_pos h3, better_some, better_some, if_neg (by omega), if_pos (by omega), if_neg h1, if_pos h1']
              · rw [if_neg h3, better_some, better_some, if_neg (by omega), if_pos (by omega), if_neg (show ¬ (⟨y.lost, y.many + z.many, y.breaks⟩ : Best).lost < x.lost from h1), if_pos (show x.lost < (⟨y.lost, y.many + z.many, y.breaks⟩ : Best).lost from h1')]
          · rw [if_neg h1']
            have e : x.lost = y.lost := by omega
            by_cases h2 : z.lost < y.lost
            · rw [if_pos h2, better_some, better_some, if_pos (show z.lost < (⟨x.lost, x.many + y.many, x.breaks⟩ : Best).lost by show z.lost < x.lost; omega), if_pos (by omega)]
            · rw [if_neg h2]
              by_cases h3 : y.lost < z.lost
              · rw [if_pos h3, better_some, better_some, if_neg (show ¬ z.lost < (⟨x.lost, x.many + y.many, x.breaks⟩ : Best).lost by show ¬ z.lost < x.lost; omega), if_pos (show (⟨x.lost, x.many + y.many, x.breaks⟩ : Best).lost < z.lost by show x.lost < z.lost; omega), if_neg h1, if_neg h1']
              · rw [if_neg h3, better_some, better_some, if_neg (show ¬ z.lost < (⟨x.lost, x.many + y.many, x.breaks⟩ : Best).lost by show ¬ z.lost < x.lost; omega), if_neg (show ¬ (⟨x.lost, x.many + y.many, x.breaks⟩ : Best).lost < z.lost by show ¬ x.lost < z.lost; omega),
                  if_neg (show ¬ (⟨y.lost, y.many + z.many, y.breaks⟩ : Best).lost < x.lost from h1), if_neg (show ¬ x.lost < (⟨y.lost, y.many + z.many, y.breaks⟩ : Best).lost from h1')]
                show some (⟨x.lost, x.many + y.many + z.many, x.breaks⟩ : Best) = some ⟨x.lost, x.many + (y.many + z.many), x.breaks⟩
                rw [Nat.add_assoc]
/-- rows of breaks, each with what is lost -/
abbrev Rows := List (List (Option Nat) × Nat)
def sumB (l : Rows) : Option Best := l.foldl (fun a x => better a (some ⟨x.2, 1, x.1⟩)) none
theorem sumB_from (l : Rows) : ∀ a : Option Best, l.foldl (fun a x => better a (some ⟨x.2, 1, x.1⟩)) a = better a (sumB l) := by
  unfold sumB
  induction l with
  | nil => intro a; exact (better_none a).symm
  | cons x l ih =>
    intro a
    rw [List.foldl_cons, List.foldl_cons, ih, ih (better none (some ⟨x.2, 1, x.1⟩)), none_better, better_assoc]
theorem sumB_append (l1 l2 : Rows) : sumB (l1 ++ l2) = better (sumB l1) (sumB l2) := by
  show (l1 ++ l2).foldl _ none = _
  rw [List.foldl_append, sumB_from]
  rfl
def putB (b : Option Nat) (x : Best) : Best := ⟨x.lost, x.many, b :: x.breaks⟩
theorem better_put (b : Option Nat) (x y : Option Best) : better (x.map (putB b)) (y.map (putB b)) = (better x y).map (putB b) := by
  cases x with
  | none => cases y <;> rfl
  | some x =>
    cases y with
    | none => rfl
    | some y =>
      show better (some (putB b x)) (some (putB b y)) = _
      rw [better_some, better_some]
      by_cases h1 : y.lost < x.lost
      · rw [if_pos (show (putB b y).lost < (putB b x).lost from h1), if_pos h1]
        rfl
      · rw [if_neg (show ¬ (putB b y).lost < (putB b x).lost from h1), if_neg h1]
        by_cases h2 : x.lost < y.lost
        · rw [if_pos (show (putB b x).lost < (putB b y).lost from h2), if_pos h2]
          rfl
        · rw [if_neg (show ¬ (putB b x).lost < (putB b y).lost from h2), if_neg h2]
          rfl
theorem sumB_put (b : Option Nat) (l : Rows) : sumB (l.map fun x => (b :: x.1, x.2)) = (sumB l).map (putB b) := by
  induction l with
  | nil => rfl
  | cons x l ih =>
    rw [List.map_cons, show (b :: x.1, x.2) :: l.map (fun x => (b :: x.1, x.2)) = [(b :: x.1, x.2)] ++ l.map (fun x => (b :: x.1, x.2)) from rfl, sumB_append, ih, show x :: l = [x] ++ l from rfl, sumB_append, ← better_put]
    rfl
/-- every row of breaks that may be cut, no break first, then the lower place -/
def rowsFrom (w : Nat) : Morning → List Day → Rows
  | m, [] => [([], m.lost)]
  | m, d :: ds => (none :: ((List.range m.places.length).filter m.may).map some).flatMap fun b => (rowsFrom w ((m.cut b).next w d) ds).map fun x => (b :: x.1, x.2)
theorem sumB_flat {α : Type} (g : α → Rows) : ∀ (l : List α) (a : Option Best), better a (sumB (l.flatMap g)) = (l.map fun x => sumB (g x)).foldl better a
  | [], a => better_none a
  | x :: l, a => by
    rw [List.flatMap_cons, sumB_append, List.map_cons, List.foldl_cons, ← sumB_flat g l, better_assoc]
theorem bestFrom_rows (w : Nat) : ∀ (ds : List Day) (m : Morning), some (bestFrom w m ds) = sumB (rowsFrom w m ds)
  | [], m => rfl
  | d :: ds, m => by
    have ih := fun m => bestFrom_rows w ds m
    have e : ∀ b : Option Nat, sumB ((rowsFrom w ((m.cut b).next w d) ds).map fun x => (b :: x.1, x.2)) = some (putB b (bestFrom w ((m.cut b).next w d) ds)) := fun b => by
      rw [sumB_put, ← ih]
      rfl
    have e2 : sumB (rowsFrom w m (d :: ds)) = ((((List.range m.places.length).filter m.may).map fun i => some (putB (some i) (bestFrom w ((m.cut (some i)).next w d) ds))).foldl better (some (putB none (bestFrom w ((m.cut none).next w d) ds)))) := by
      show sumB ((none :: ((List.range m.places.length).filter m.may).map some).flatMap fun b => (rowsFrom w ((m.cut b).next w d) ds).map fun x => (b :: x.1, x.2)) = _
      rw [List.flatMap_cons, sumB_append, e, sumB_flat, List.map_map]
      refine congrArg (fun l => List.foldl better _ l) (List.map_congr_left fun i _ => ?_)
      exact e (some i)
    have e3 : ∃ z, (((List.range m.places.length).filter m.may).map fun i => some (putB (some i) (bestFrom w ((m.cut (some i)).next w d) ds))).foldl better (some (putB none (bestFrom w ((m.cut none).next w d) ds))) = some z := by
      generalize ((List.range m.places.length).filter m.may) = l
      generalize putB none (bestFrom w ((m.cut none).next w d) ds) = x0
      induction l generalizing x0 with
      | nil => exact ⟨_, rfl⟩
      | cons i l il =>
        rw [List.map_cons, List.foldl_cons, better_some]
        split
        · exact il _
        · split
          · exact il _
          · exact il _
    obtain ⟨z, hz⟩ := e3
    rw [e2]
    show some (((((List.range m.places.length).filter m.may).map fun i => some (putB (some i) (bestFrom w ((m.cut (some i)).next w d) ds))).foldl better (some (putB none (bestFrom w ((m.cut none).next w d) ds)))).getD (putB none (bestFrom w ((m.cut none).next w d) ds))) = _
    rw [hz]
    rfl
end Fs

set_option Elab.async false
namespace Fs
open Uw01
theorem out_len (p : List Sw96.Place) (l : List Nat) : (out p l).length = p.length := by
  unfold out
  rw [List.length_map, List.length_zipIdx]
theorem cut_len (m : Morning) (b : Option Nat) : (m.cut b).places.length = m.places.length := by
  cases b with
  | none => rfl
  | some i => exact out_len _ _
theorem next_len (m : Morning) (w : Nat) (d : Day) : (m.next w d).places.length = m.places.length := out_len _ _
/-- all rows over n places, for k days, none first, then the lower place -/
def allRows (n : Nat) : Nat → List (List (Option Nat))
  | 0 => [[]]
  | k + 1 => (none :: (List.range n).map some).flatMap fun b => (allRows n k).map fun r => b :: r
def rowOf (w : Nat) (m : Morning) (ds : List Day) (r : List (Option Nat)) : Option (List (Option Nat) × Nat) := (follow w m ds r).map fun l => (r, (last m l).lost)
theorem last_cons (m n : Morning) (l : List Morning) : last m (n :: l) = last n l := by
  unfold last
  cases l with
  | nil => rfl
  | cons a l => rw [List.getLast?_cons_cons]; cases e : (a :: l).getLast? with
    | none => rw [List.getLast?_eq_none_iff] at e; cases e
    | some z => rfl
theorem rowOf_cons (w : Nat) (m : Morning) (d : Day) (ds : List Day) (b : Option Nat) (r : List (Option Nat)) :
    rowOf w m (d :: ds) (b :: r) = if (b.any fun i => !m.may i) = true then none else (rowOf w ((m.cut b).next w d) ds r).map fun x => (b :: x.1, x.2) := by
  unfold rowOf
  show (if (b.any fun i => !m.may i) = true then none else (follow w ((m.cut b).next w d) ds r).map fun l => (m.cut b).next w d :: l).map _ = _
  by_cases c : (b.any fun i => !m.may i) = true
  · rw [if_pos c, if_pos c]
    rfl
  · rw [if_neg c, if_neg c, Option.map_map, Option.map_map]
    refine congrArg (fun g => Option.map g _) (funext fun l => ?_)
    show (b :: r, (last m ((m.cut b).next w d :: l)).lost) = (b :: r, _)
    rw [last_cons]
theorem filterMap_flat {α β γ : Type} (g : β → Option γ) (h : α → List β) : ∀ l : List α, (l.flatMap h).filterMap g = l.flatMap fun x => (h x).filterMap g
  | [] => rfl
  | x :: l => by rw [List.flatMap_cons, List.filterMap_append, filterMap_flat g h l, List.flatMap_cons]
theorem flatMap_filter {α β : Type} (p : α → Bool) (h : α → List β) (hn : ∀ x, p x = false → h x = []) : ∀ l : List α, l.flatMap h = (l.filter p).flatMap h
  | [] => rfl
  | x :: l => by
    rw [List.flatMap_cons, flatMap_filter p h hn l]
    cases e : p x with
    | true => rw [List.filter_cons_of_pos e, List.flatMap_cons]
    | false => rw [List.filter_cons_of_neg (by rw [e]; decide), hn x e, List.nil_append]
theorem rows_all (w : Nat) : ∀ (ds : List Day) (m : Morning), rowsFrom w m ds = (allRows m.places.length ds.length).filterMap (rowOf w m ds)
  | [], m => rfl
  | d :: ds, m => by
    have ih := fun m => rows_all w ds m
    have hb : ∀ b : Option Nat, ((allRows m.places.length ds.length).map fun r => b :: r).filterMap (rowOf w m (d :: ds)) = if (b.any fun i => !m.may i) = true then [] else (rowsFrom w ((m.cut b).next w d) ds).map fun x => (b :: x.1, x.2) := fun b => by
      rw [List.filterMap_map]
      have e : (rowOf w m (d :: ds) ∘ fun r => b :: r) = fun r => if (b.any fun i => !m.may i) = true then none else (rowOf w ((m.cut b).next w d) ds r).map fun x => (b :: x.1, x.2) := funext fun r => rowOf_cons w m d ds b r
      rw [e]
      by_cases c : (b.any fun i => !m.may i) = true
      · simp only [c, if_true]
        exact List.filterMap_eq_nil_iff.mpr fun _ _ => rfl
      · simp only [c, if_false]
        rw [ih, next_len, cut_len]
        exact (List.map_filterMap (f := rowOf w ((m.cut b).next w d) ds)).symm
    show ((none :: ((List.range m.places.length).filter m.may).map some).flatMap fun b => (rowsFrom w ((m.cut b).next w d) ds).map fun x => (b :: x.1, x.2)) = ((none :: (List.range m.places.length).map some).flatMap fun b => (allRows m.places.length ds.length).map fun r => b :: r).filterMap (rowOf w m (d :: ds))
    rw [filterMap_flat, List.flatMap_cons, List.flatMap_cons, hb none, if_neg (by intro z; cases z), List.flatMap_map, List.flatMap_map]
    congr 1
    rw [flatMap_filter m.may (fun i => ((allRows m.places.length ds.length).map fun r => some i :: r).filterMap (rowOf w m (d :: ds))) (fun i hi => by rw [hb (some i)]; rw [if_pos (by show (!m.may i) = true; rw [hi]; rfl)])]
    have fc : ∀ (l : List Nat) (g h : Nat → Rows), (∀ i ∈ l, g i = h i) → l.flatMap g = l.flatMap h := fun l g h e => by
      induction l with
      | nil => rfl
      | cons x l il => rw [List.flatMap_cons, List.flatMap_cons, e x (List.mem_cons_self ..), il fun i hi => e i (List.mem_cons_of_mem _ hi)]
    refine fc _ _ _ fun i hi => ?_
    rw [hb (some i), if_neg]
    show ¬ (!m.may i) = true
    rw [(List.mem_filter.mp hi).2]
    decide
/-- what best is: of all rows in their order those that may be cut -/
theorem best_all (w : Nat) (m : Morning) (ds : List Day) : some (bestFrom w m ds) = sumB ((allRows m.places.length ds.length).filterMap (rowOf w m ds)) := by
  rw [bestFrom_rows, rows_all]
end Fs

set_option Elab.async false
namespace Fs
open Sw96 (Forest Way Place)
/-! times: what is known between two turns -/
def At (ts : List Nat) (i x : Nat) : Prop := ts[i]? = some x
structure TInv (f : Forest) (mi : Nat) (ts : List Nat) (pend : Nat → Prop) : Prop where
  len : ts.length = f.places.length
  top : ∀ i x, At ts i x → x ≤ mi + 1
  sound : ∀ i x, At ts i x → x ≤ mi → Way f [] i x
  zero : ∀ i, i < f.places.length → f.fires.contains i = true → f.slow i ≠ 0 → At ts i 0
  closed : ∀ i x, At ts i x → x ≤ mi → ¬ pend i → ∀ d j c, (d, j) ∈ f.near i → f.time [] i d j = some c → ∃ y, At ts j y ∧ y ≤ x + c
/-- the ways that are written down for i -/
structure Steps (f : Forest) (b : Nat → Bool) (i : Nat) (L : List (Nat × Nat)) : Prop where
  to : ∀ j c, (j, c) ∈ L → b j = true → f.slow i ≠ 0 → ∃ d, (d, j) ∈ f.near i ∧ f.time [] i d j = some c
  from_ : ∀ d j c, (d, j) ∈ f.near i → f.time [] i d j = some c → (j, c) ∈ L ∧ b j = true
/-- the ways of i that were looked at -/
def Done (ts : List Nat) (b : Nat → Bool) (x : Nat) (L : List (Nat × Nat)) : Prop := ∀ j c, (j, c) ∈ L → b j = true → ∃ y, At ts j y ∧ y ≤ x + c
theorem At.inj {ts : List Nat} {i x y : Nat} (h : At ts i x) (g : At ts i y) : x = y := Option.some.inj (h.symm.trans g)
theorem At.lt {ts : List Nat} {i x : Nat} (h : At ts i x) : i < ts.length := (List.getElem?_eq_some_iff.mp h).1
theorem At.of {ts : List Nat} {i : Nat} (h : i < ts.length) : At ts i ts[i] := List.getElem?_eq_getElem h
theorem At.set_same {ts : List Nat} {j y : Nat} (h : j < ts.length) : At (ts.set j y) j y := List.getElem?_set_self h
theorem At.set_ne {ts : List Nat} {i j x y : Nat} (h : i ≠ j) : At (ts.set j y) i x ↔ At ts i x := by
  unfold At
  rw [List.getElem?_set_ne h.symm]
theorem sum_set : ∀ {ts : List Nat} {j x y : Nat}, At ts j x → y < x → (ts.set j y).sum < ts.sum
  | [], _, _, _, h, _ => by cases h
  | a :: l, 0, x, y, h, hy => by
    have e : a = x := Option.some.inj h
    subst e
    show (y :: l).sum < (a :: l).sum
    rw [List.sum_cons, List.sum_cons]
    omega
  | a :: l, j + 1, x, y, h, hy => by
    have h' : At l j x := h
    have := sum_set h' hy
    show (a :: l.set j y).sum < (a :: l).sum
    rw [List.sum_cons, List.sum_cons]
    omega
theorem way_slow {f : Forest} {b : List Nat} {i x : Nat} (h : Way f b i x) : f.slow i ≠ 0 := by
  cases h with
  | begins _ _ _ h _ => exact h
  | goes i j d a c _ _ h =>
    unfold Forest.time at h
    split at h
    · cases h
    · rename_i hn
      intro z
      exact hn (.inr (.inl z))
section
variable {f : Forest} {mi : Nat} {ts : List Nat} {pend : Nat → Prop} {b : Nat → Bool}
/-- a neighbour is reached sooner -/
theorem TInv.step (I : TInv f mi ts pend) {i j c x y : Nat} {L : List (Nat × Nat)} (S : Steps f b i L) (hm : (j, c) ∈ L) (hb : b j = true) (hi : At ts i x) (hj : At ts j y) (lt : x + c < y) :
    TInv f mi (ts.set j (x + c)) (fun k => pend k ∨ k = j) := by
  have hy := I.top j y hj
  have wi : Way f [] i x := I.sound i x hi (by omega)
  obtain ⟨d, hn, ht⟩ := S.to j c hm hb (way_slow wi)
  refine ⟨by rw [List.length_set]; exact I.len, fun k z h => ?_, fun k z h hz => ?_, fun k hk hf hs => ?_, fun k z h hz hp d' j' c' h1 h2 => ?_⟩
  · by_cases e : k = j
    · subst e
      have := At.inj h (At.set_same hj.lt)
      omega
    · exact I.top k z ((At.set_ne e).mp h)
  · by_cases e : k = j
    · subst e
      have := At.inj h (At.set_same hj.lt)
      subst this
      exact Way.goes i k d x c wi hn ht
    · exact I.sound k z ((At.set_ne e).mp h) hz
  · have h0 := I.zero k hk hf hs
    by_cases e : k = j
    · subst e
      have := At.inj h0 hj
      omega
    · exact (At.set_ne e).mpr h0
  · have e : k ≠ j := fun e => hp (.inr e)
    obtain ⟨y', g1, g2⟩ := I.closed k z ((At.set_ne e).mp h) hz (fun q => hp (.inl q)) d' j' c' h1 h2
    by_cases e' : j' = j
    · subst e'
      have := At.inj g1 hj
      exact ⟨_, At.set_same hj.lt, by omega⟩
    · exact ⟨y', (At.set_ne e').mpr g1, g2⟩
theorem Done.step {x : Nat} {L : List (Nat × Nat)} (D : Done ts b x L) {j y z : Nat} (hj : At ts j y) (lt : z < y) : Done (ts.set j z) b x L := fun j' c' h1 h2 => by
  obtain ⟨y', g1, g2⟩ := D j' c' h1 h2
  by_cases e : j' = j
  · subst e
    have := At.inj g1 hj
    exact ⟨_, At.set_same hj.lt, by omega⟩
  · exact ⟨y', (At.set_ne e).mpr g1, g2⟩
/-- all ways of i were looked at -/
theorem TInv.turn {pend' : Nat → Prop} (I : TInv f mi ts pend) {i x : Nat} {L : List (Nat × Nat)} (S : Steps f b i L) (hi : At ts i x) (D : Done ts b x L) (hp : ∀ k, ¬ pend' k → ¬ pend k ∨ k = i) : TInv f mi ts pend' := by
  refine ⟨I.len, I.top, I.sound, I.zero, fun k z h hz hn d j c h1 h2 => ?_⟩
  rcases hp k hn with g | g
  · exact I.closed k z h hz g d j c h1 h2
  · subst g
    have := At.inj h hi
    subst this
    obtain ⟨m, hb⟩ := S.from_ d j c h1 h2
    exact D j c m hb
theorem TInv.mono {pend' : Nat → Prop} (I : TInv f mi ts pend) (hp : ∀ k, pend k → pend' k) : TInv f mi ts pend' :=
  ⟨I.len, I.top, I.sound, I.zero, fun k z h hz hn => I.closed k z h hz fun q => hn (hp k q)⟩
theorem TInv.mono' {pend' : Nat → Prop} (I : TInv f mi ts pend) (hp : ∀ k, k < f.places.length → pend k → pend' k) : TInv f mi ts pend' :=
  ⟨I.len, I.top, I.sound, I.zero, fun k z h hz hn => I.closed k z h hz fun q => hn (hp k (by rw [← I.len]; exact h.lt) q)⟩
/-- the start -/
theorem TInv.start (hl : ts.length = f.places.length) (hs : ∀ i, i < f.places.length → (f.fires.contains i = true → f.slow i ≠ 0)) (h0 : ∀ i, i < f.places.length → f.fires.contains i = true → At ts i 0) (h1 : ∀ i, i < f.places.length → f.fires.contains i = false → At ts i (mi + 1)) :
    TInv f mi ts (fun k => f.fires.contains k = true) := by
  have two : ∀ i x, At ts i x → (f.fires.contains i = true ∧ x = 0) ∨ (f.fires.contains i = false ∧ x = mi + 1) := fun i x h => by
    have hi : i < f.places.length := by rw [← hl]; exact h.lt
    cases e : f.fires.contains i with
    | true => exact .inl ⟨rfl, h.inj (h0 i hi e)⟩
    | false => exact .inr ⟨rfl, h.inj (h1 i hi e)⟩
  refine ⟨hl, fun i x h => ?_, fun i x h hx => ?_, fun i hi hf _ => h0 i hi hf, fun i x h hx hn => ?_⟩
  · rcases two i x h with ⟨_, e⟩ | ⟨_, e⟩ <;> omega
  · have hi : i < f.places.length := by rw [← hl]; exact h.lt
    rcases two i x h with ⟨g, e⟩ | ⟨_, e⟩
    · subst e
      exact Way.begins i hi g (hs i hi g) rfl
    · omega
  · rcases two i x h with ⟨g, _⟩ | ⟨_, e⟩
    · exact absurd g hn
    · omega
theorem TInv.le (I : TInv f mi ts (fun _ => False)) {i x : Nat} (h : Way f [] i x) : x ≤ mi → ∃ y, At ts i y ∧ y ≤ x := by
  induction h with
  | begins i hi hf hs _ => intro _; exact ⟨0, I.zero i hi hf hs, Nat.le_refl _⟩
  | goes i j d a c _ hn ht ih =>
    intro hx
    obtain ⟨y, h1, h2⟩ := ih (by omega)
    obtain ⟨z, g1, g2⟩ := I.closed i y h1 (by omega) (fun z => z) d j c hn ht
    exact ⟨z, g1, by omega⟩
theorem TInv.burnt (I : TInv f mi ts (fun _ => False)) (hw : 0 < f.width) {i x : Nat} (h : At ts i x) : x ≤ mi ↔ i ∈ f.burnt [] mi := by
  rw [burnt_iff hw]
  constructor
  · intro hx
    exact ⟨x, hx, I.sound i x h hx⟩
  · rintro ⟨y, hy, w⟩
    obtain ⟨z, g1, g2⟩ := I.le w hy
    have := g1.inj h
    omega
end
end Fs

set_option Elab.async false
namespace Fs
open Sw96 (Forest Way Place)
open Uw01 (Morning Day slow worth out)
/-! neighbours -/
def nearP (w n p : Nat) : List (Nat × Nat) :=
  (if w ≤ p then [(0, p - w)] else []) ++ ((if p % w + 1 < w then [(1, p + 1)] else []) ++ ((if p + w < n then [(2, p + w)] else []) ++ (if 0 < p % w then [(3, p - 1)] else [])))
theorem nearP_near {f : Forest} {p : Nat} (h1 : 1 ≤ f.width) (h4 : f.width ≤ 4) (hn : f.places.length % f.width = 0) (hp : p < f.places.length) : nearP f.width f.places.length p = f.near p := by
  obtain ⟨w, pl, wd, fi⟩ := f
  unfold nearP Forest.near
  simp only at h1 h4 hn hp ⊢
  have e : (p % w + 1 < w) ↔ ((p + 1) % w ≠ 0 ∧ p + 1 < pl.length) := by
    have : w = 1 ∨ w = 2 ∨ w = 3 ∨ w = 4 := by omega
    rcases this with rfl | rfl | rfl | rfl <;> omega
  have e2 : (0 < p % w) ↔ p % w ≠ 0 := Nat.pos_iff_ne_zero
  simp only [e, e2]
def waysP (w : Nat) (sl wind : List Nat) (p : Nat) : List (Nat × Nat) := (nearP w sl.length p).map fun x => (x.2, (sl.getD p 0 + sl.getD x.2 0) * wind.getD x.1 1)
theorem getD_slow (P : List Place) (i : Nat) : (P.map (·.slow)).getD i 0 = slow P i := by
  unfold slow
  rw [List.getD_eq_getElem?_getD, List.getElem?_map]
theorem getD_worth (P : List Place) (i : Nat) : (P.map (·.worth)).getD i 0 = worth P i := by
  unfold worth
  rw [List.getD_eq_getElem?_getD, List.getElem?_map]
theorem time_some {f : Forest} {i d j c : Nat} : f.time [] i d j = some c ↔ f.slow i ≠ 0 ∧ f.slow j ≠ 0 ∧ c = (f.slow i + f.slow j) * f.wind.getD d 1 := by
  unfold Forest.time
  constructor
  · intro h
    split at h
    · cases h
    · rename_i hn
      refine ⟨fun z => hn (.inl z), fun z => hn (.inr (.inl z)), (Option.some.inj h).symm⟩
  · rintro ⟨h1, h2, rfl⟩
    rw [if_neg]
    rintro (z | z | z | z)
    · exact h1 z
    · exact h2 z
    · simp at z
    · simp at z
theorem steps_of {f : Forest} {P : List Place} {i : Nat} (h1 : 1 ≤ f.width) (h4 : f.width ≤ 4) (hn : f.places.length % f.width = 0) (hl : f.places.length = P.length) (same : ∀ k, slow f.places k = 0 ∨ slow f.places k = slow P k) (hi : i < f.places.length) :
    Steps f (fun j => decide (0 < slow f.places j)) i (waysP f.width (P.map (·.slow)) f.wind i) := by
  have en : nearP f.width (P.map (·.slow)).length i = f.near i := by
    rw [List.length_map, ← hl]
    exact nearP_near h1 h4 hn hi
  have es : ∀ k, f.slow k ≠ 0 → (P.map (·.slow)).getD k 0 = f.slow k := fun k h => by
    rw [getD_slow]
    rcases same k with z | z
    · exact absurd z h
    · exact z.symm
  refine ⟨fun j c hm hb hs => ?_, fun d j c hm ht => ?_⟩
  · unfold waysP at hm
    rw [en] at hm
    obtain ⟨⟨d, j'⟩, hx, e⟩ := List.mem_map.mp hm
    injection e with e1 e2
    simp only at e1
    subst e1
    have hb' : f.slow j' ≠ 0 := by
      have := of_decide_eq_true hb
      exact Nat.pos_iff_ne_zero.mp this
    refine ⟨d, hx, time_some.mpr ⟨hs, hb', ?_⟩⟩
    rw [← e2, es i hs, es j' hb']
  · obtain ⟨g1, g2, g3⟩ := time_some.mp ht
    refine ⟨?_, decide_eq_true (Nat.pos_iff_ne_zero.mpr g2)⟩
    unfold waysP
    rw [en]
    refine List.mem_map.mpr ⟨(d, j), hm, ?_⟩
    simp only
    rw [es i g1, es j g2, g3]
/-! mornings -/
def brn (p : List Place) : List Bool := p.map fun x => decide (0 < x.slow)
theorem brn_len (p : List Place) : (brn p).length = p.length := by unfold brn; rw [List.length_map]
theorem brn_get (p : List Place) (i : Nat) : (brn p).getD i false = decide (0 < slow p i) := by
  unfold brn slow
  rw [List.getD_eq_getElem?_getD, List.getElem?_map]
  cases p[i]? with
  | none => rfl
  | some x => rfl
theorem out_get (p : List Place) (l : List Nat) (i : Nat) : (out p l)[i]? = (p[i]?).map fun x => if l.contains i = true then ⟨0, x.worth⟩ else x := by
  unfold out
  rw [List.getElem?_map, List.getElem?_zipIdx]
  cases p[i]? with
  | none => rfl
  | some x => simp
theorem slow_out (p : List Place) (l : List Nat) (i : Nat) : slow (out p l) i = if l.contains i = true then 0 else slow p i := by
  unfold slow
  rw [out_get]
  cases p[i]? with
  | none => simp
  | some x => simp; split <;> rfl
theorem worth_out (p : List Place) (l : List Nat) (i : Nat) : worth (out p l) i = worth p i := by
  unfold worth
  rw [out_get]
  cases p[i]? with
  | none => rfl
  | some x => simp; split <;> rfl
theorem brn_out_nil (p : List Place) : brn (out p []) = brn p := by
  apply List.ext_getElem?
  intro i
  unfold brn
  rw [List.getElem?_map, List.getElem?_map, out_get]
  cases p[i]? <;> simp
theorem brn_out_snoc (p : List Place) (l : List Nat) (i : Nat) : brn (out p (l ++ [i])) = (brn (out p l)).set i false := by
  apply List.ext_getElem?
  intro k
  rw [List.getElem?_set]
  unfold brn
  rw [List.getElem?_map, List.getElem?_map, out_get, out_get, List.length_map, out_len]
  by_cases e : i = k
  · subst e
    rw [if_pos rfl]
    by_cases h : i < p.length
    · rw [if_pos h, List.getElem?_eq_getElem h]
      simp
    · rw [if_neg h, List.getElem?_eq_none (by omega)]
      rfl
  · rw [if_neg e]
    cases p[k]? with
    | none => rfl
    | some x =>
      have : (l ++ [i]).contains k = l.contains k := by
        rw [List.contains_eq_mem, List.contains_eq_mem]
        apply decide_eq_decide.mpr
        rw [List.mem_append, List.mem_singleton]
        constructor
        · rintro (h | h)
          · exact h
          · exact absurd h.symm e
        · exact .inl
      simp only [this]
structure MOk (P : List Place) (m : Morning) : Prop where
  len : m.places.length = P.length
  wor : ∀ i, worth m.places i = worth P i
  same : ∀ i, slow m.places i = 0 ∨ slow m.places i = slow P i
  fire : ∀ i, i ∈ m.burning → i < P.length ∧ slow m.places i ≠ 0
  few : m.burning.length ≤ P.length
theorem MOk.start (P : List Place) : MOk P ⟨P, [], 0⟩ := ⟨rfl, fun _ => rfl, fun _ => .inr rfl, fun i h => by simp at h, Nat.zero_le _⟩
def MayB (m : Morning) (b : Option Nat) : Prop := (b.any fun i => !m.may i) = false
theorem may_iff {m : Morning} {i : Nat} : m.may i = true ↔ i < m.places.length ∧ slow m.places i ≠ 0 ∧ i ∉ m.burning := by
  unfold Morning.may
  rw [Bool.and_eq_true, Bool.and_eq_true, decide_eq_true_iff]
  simp
theorem MOk.cut {P : List Place} {m : Morning} (h : MOk P m) {b : Option Nat} (hb : MayB m b) : MOk P (m.cut b) := by
  cases b with
  | none => exact h
  | some i =>
    have hb' : m.may i = true := by
      unfold MayB at hb
      simpa using hb
    obtain ⟨g1, g2, g3⟩ := may_iff.mp hb'
    refine ⟨(out_len _ _).trans h.len, fun k => (worth_out _ _ _).trans (h.wor k), fun k => ?_, fun k hk => ?_, h.few⟩
    · show slow (out m.places [i]) k = 0 ∨ slow (out m.places [i]) k = slow P k
      rw [slow_out]
      split
      · exact .inl rfl
      · exact h.same k
    · obtain ⟨k1, k2⟩ := h.fire k hk
      refine ⟨k1, ?_⟩
      show slow (out m.places [i]) k ≠ 0
      rw [slow_out, if_neg]
      · exact k2
      · intro z
        have : k = i := by simpa using z
        subst this
        exact g3 hk
theorem cut_burning (m : Morning) (b : Option Nat) : (m.cut b).burning = m.burning := by cases b <;> rfl
/-- the forest of a morning's fire -/
abbrev forestM (w : Nat) (m : Morning) (d : Day) : Forest := ⟨w, m.places, d.wind, m.fires d⟩
theorem burnt_mem {f : Forest} {mi i : Nat} (hw : 0 < f.width) (h : i ∈ f.burnt [] mi) : i < f.places.length ∧ f.slow i ≠ 0 := by
  obtain ⟨x, _, hw'⟩ := (burnt_iff hw).mp h
  exact ⟨way_lt hw', way_slow hw'⟩
theorem MOk.next {P : List Place} {m : Morning} {w : Nat} {d : Day} (hw : 0 < w) (h : MOk P m) : MOk P (m.next w d) := by
  have hb : ∀ i, i ∈ m.burns w d → i < m.places.length ∧ slow m.places i ≠ 0 ∧ i ∉ m.burning := fun i hi => by
    unfold Morning.burns at hi
    obtain ⟨h1, h2⟩ := List.mem_filter.mp hi
    obtain ⟨g1, g2⟩ := burnt_mem (f := forestM w m d) hw h1
    exact ⟨g1, g2, by simpa using h2⟩
  refine ⟨(out_len _ _).trans h.len, fun k => (worth_out _ _ _).trans (h.wor k), fun k => ?_, fun k hk => ?_, ?_⟩
  · show slow (out m.places m.burning) k = 0 ∨ slow (out m.places m.burning) k = slow P k
    rw [slow_out]
    split
    · exact .inl rfl
    · exact h.same k
  · obtain ⟨g1, g2, g3⟩ := hb k hk
    refine ⟨by rw [← h.len]; exact g1, ?_⟩
    show slow (out m.places m.burning) k ≠ 0
    rw [slow_out, if_neg (by simpa using g3)]
    exact g2
  · show (m.burns w d).length ≤ _
    unfold Morning.burns Forest.burnt
    refine Nat.le_trans (List.length_filter_le _ _) (Nat.le_trans (List.length_filter_le _ _) ?_)
    rw [List.length_range]
    exact Nat.le_of_eq h.len
theorem fires_contains {m : Morning} (d : Day) (i : Nat) : (m.burning ++ d.strikes.filter fun i => decide (0 < slow m.places i)).contains i = (m.fires d).contains i := by
  unfold Morning.fires
  rw [List.contains_eq_mem, List.contains_eq_mem]
  apply decide_eq_decide.mpr
  simp only [List.mem_append, List.mem_filter]
  constructor
  · rintro (h | ⟨h1, h2⟩)
    · exact .inl h
    · by_cases hb : i ∈ m.burning
      · exact .inl hb
      · refine .inr ⟨h1, ?_⟩
        have : slow m.places i ≠ 0 := Nat.pos_iff_ne_zero.mp (of_decide_eq_true h2)
        simp [this, hb]
  · rintro (h | ⟨h1, h2⟩)
    · exact .inl h
    · refine .inr ⟨h1, ?_⟩
      simp at h2
      exact decide_eq_true (Nat.pos_iff_ne_zero.mpr h2.1)
theorem filter_self (p : Nat → Bool) (l : List Nat) : l.filter p = l.filter (fun i => decide (i ∈ l.filter p)) := by
  refine List.filter_congr fun i hi => ?_
  cases e : p i with
  | true => exact (decide_eq_true (List.mem_filter.mpr ⟨hi, e⟩)).symm
  | false => exact (decide_eq_false (fun z => by have := (List.mem_filter.mp z).2; rw [e] at this; cases this)).symm
/-- the day's burnt places by their times -/
theorem burns_eq {m : Morning} {w : Nat} {d : Day} {ts : List Nat} (hw : 0 < w) (I : TInv (forestM w m d) d.minutes ts (fun _ => False)) :
    (List.range m.places.length).filter (fun i => (brn (out m.places m.burning)).getD i false && decide (ts.getD i 0 ≤ d.minutes)) = m.burns w d := by
  unfold Morning.burns
  have eb : (forestM w m d).burnt [] d.minutes = (List.range m.places.length).filter (fun i => decide (i ∈ (forestM w m d).burnt [] d.minutes)) := by
    exact filter_self _ _
  rw [eb, List.filter_filter]
  refine List.filter_congr fun i hi => ?_
  have hi' : i < ts.length := by rw [I.len]; exact List.mem_range.mp hi
  have e1 : ts.getD i 0 = ts[i] := by rw [List.getD_eq_getElem?_getD, List.getElem?_eq_getElem hi']; rfl
  have key := I.burnt hw (At.of hi')
  rw [brn_get, slow_out, e1]
  by_cases hc : m.burning.contains i = true
  · rw [if_pos hc, hc]
    rfl
  · have hc' : m.burning.contains i = false := by simpa using hc
    rw [if_neg hc, hc']
    by_cases hk : i ∈ (forestM w m d).burnt [] d.minutes
    · have hs : slow m.places i ≠ 0 := (burnt_mem (f := forestM w m d) hw hk).2
      rw [decide_eq_true (key.mpr hk), decide_eq_true hk, decide_eq_true (Nat.pos_iff_ne_zero.mpr hs)]
      rfl
    · rw [decide_eq_false (fun z => hk (key.mp z)), decide_eq_false hk, Bool.and_false]
      rfl
theorem foldl_sum : ∀ (l : List Nat) (a : Nat), l.foldl (fun a b => a + b) a = a + l.sum
  | [], a => by simp
  | x :: l, a => by rw [List.foldl_cons, foldl_sum l, List.sum_cons]; omega
theorem total_sum (l : List Nat) : Sw96.total l = l.sum := by unfold Sw96.total; rw [foldl_sum, Nat.zero_add]
end Fs

set_option Elab.async false
namespace Fs
open Uw01 (Morning Day Best better follow last bestFrom)
/-! all rows, day by day -/
def choices (m : Morning) : List (Option Nat) := none :: ((List.range m.places.length).filter m.may).map some
abbrev MRow := List (Option Nat) × Morning
def longer (w : Nat) (d : Day) (r : MRow) : List MRow := (choices r.2).map fun b => (r.1 ++ [b], (r.2.cut b).next w d)
def rowsM (w : Nat) : List MRow → List Day → List MRow
  | R, [] => R
  | R, d :: ds => rowsM w (R.flatMap (longer w d)) ds
theorem rowsM_snoc (w : Nat) : ∀ (ds : List Day) (R : List MRow) (d : Day), rowsM w R (ds ++ [d]) = (rowsM w R ds).flatMap (longer w d)
  | [], _, _ => rfl
  | e :: ds, R, d => rowsM_snoc w ds (R.flatMap (longer w e)) d
def lostOf (r : MRow) : List (Option Nat) × Nat := (r.1, r.2.lost)
theorem rowsM_from (w : Nat) : ∀ (ds : List Day) (R : List MRow), (rowsM w R ds).map lostOf = R.flatMap fun r => (rowsFrom w r.2 ds).map fun x => (r.1 ++ x.1, x.2)
  | [], R => by
    show R.map lostOf = R.flatMap fun r => [(([], r.2.lost) : List (Option Nat) × Nat)].map fun x => (r.1 ++ x.1, x.2)
    induction R with
    | nil => rfl
    | cons r R ih =>
      rw [List.map_cons, List.flatMap_cons, ih]
      simp [lostOf]
  | d :: ds, R => by
    show (rowsM w (R.flatMap (longer w d)) ds).map lostOf = _
    rw [rowsM_from w ds, List.flatMap_assoc]
    congr 1
    funext r
    show ((choices r.2).map fun b => (r.1 ++ [b], (r.2.cut b).next w d)).flatMap _ = ((choices r.2).flatMap fun b => (rowsFrom w ((r.2.cut b).next w d) ds).map fun x => (b :: x.1, x.2)).map _
    rw [List.flatMap_map, List.map_flatMap]
    congr 1
    funext b
    rw [List.map_map]
    refine List.map_congr_left fun x _ => ?_
    simp
theorem rowsM_start (w : Nat) (m : Morning) (ds : List Day) : (rowsM w [([], m)] ds).map lostOf = rowsFrom w m ds := by
  rw [rowsM_from]
  simp
theorem rowsM_ne (w : Nat) : ∀ (ds : List Day) (R : List MRow), R ≠ [] → rowsM w R ds ≠ []
  | [], _, h => h
  | d :: ds, R, h => by
    refine rowsM_ne w ds _ ?_
    cases R with
    | nil => exact absurd rfl h
    | cons r R => rw [List.flatMap_cons]; unfold longer choices; simp
/-! the least -/
def leastF : List Nat → Nat → Nat
  | [], a => a
  | x :: l, a => leastF l (min a x)
theorem leastF_le : ∀ (l : List Nat) (a : Nat), leastF l a ≤ a ∧ (∀ x ∈ l, leastF l a ≤ x)
  | [], a => ⟨Nat.le_refl _, fun x h => by simp at h⟩
  | y :: l, a => by
    obtain ⟨h1, h2⟩ := leastF_le l (min a y)
    refine ⟨Nat.le_trans h1 (Nat.min_le_left _ _), fun x hx => ?_⟩
    rcases List.mem_cons.mp hx with rfl | h
    · exact Nat.le_trans h1 (Nat.min_le_right _ _)
    · exact h2 x h
/-- what the fold of better is: the least, how many have it, the first of these -/
theorem sumB_least : ∀ (l : Rows), l ≠ [] → ∃ (v : Nat) (r : List (Option Nat)) (t : Rows), l.filter (fun x => x.2 == v) = (r, v) :: t ∧ (∀ x ∈ l, v ≤ x.2) ∧ sumB l = some ⟨v, (l.filter (fun x => x.2 == v)).length, r⟩ := by
  intro l
  induction l with
  | nil => intro h; exact absurd rfl h
  | cons x l ih =>
    intro _
    have e0 : sumB (x :: l) = better (some ⟨x.2, 1, x.1⟩) (sumB l) := by
      have := sumB_append [x] l
      rw [show ([x] ++ l : Rows) = x :: l from rfl] at this
      rw [this]
      show better (better none (some ⟨x.2, 1, x.1⟩)) _ = _
      rw [none_better]
    by_cases hl : l = []
    · subst hl
      refine ⟨x.2, x.1, [], by simp, fun y hy => ?_, ?_⟩
      · rw [List.mem_singleton.mp hy]
        exact Nat.le_refl _
      · rw [e0]
        simp [sumB, better_none]
    · obtain ⟨v, r, t, h1, h2, h3⟩ := ih hl
      rw [e0, h3, better_some]
      by_cases c1 : v < x.2
      · refine ⟨v, r, t, ?_, fun y hy => ?_, ?_⟩
        · rw [List.filter_cons_of_neg (by simp; omega), h1]
        · rcases List.mem_cons.mp hy with rfl | h
          · omega
          · exact h2 y h
        · rw [if_pos c1, List.filter_cons_of_neg (by simp; omega)]
      · rw [if_neg c1]
        by_cases c2 : x.2 < v
        · have hn : l.filter (fun y => y.2 == x.2) = [] := by
            rw [List.filter_eq_nil_iff]
            intro y hy
            have := h2 y hy
            simp
            omega
          refine ⟨x.2, x.1, [], ?_, fun y hy => ?_, ?_⟩
          · rw [List.filter_cons_of_pos (by simp), hn]
          · rcases List.mem_cons.mp hy with rfl | h
            · exact Nat.le_refl _
            · have := h2 y h
              omega
          · rw [if_pos c2, List.filter_cons_of_pos (by simp), hn]
            rfl
        · have e : x.2 = v := by omega
          refine ⟨v, x.1, (r, v) :: t, ?_, fun y hy => ?_, ?_⟩
          · rw [List.filter_cons_of_pos (by simp [e]), h1, ← e]
          · rcases List.mem_cons.mp hy with rfl | h
            · omega
            · exact h2 y h
          · rw [if_neg c2, List.filter_cons_of_pos (by simp [e]), h1, List.length_cons, List.length_cons, e]
            show some (⟨v, 1 + (((r, v) :: t : Rows).length), x.1⟩ : Best) = _
            rw [List.length_cons, Nat.add_comm 1]
/-- best, over the rows as the program lists them -/
theorem best_rows_spec (w : Nat) (m : Morning) (ds : List Day) : ∃ (v : Nat) (r : MRow) (t : List MRow), (rowsM w [([], m)] ds).filter (fun x => x.2.lost == v) = r :: t ∧ r.2.lost = v ∧ (∀ x ∈ rowsM w [([], m)] ds, v ≤ x.2.lost) ∧
    bestFrom w m ds = ⟨v, t.length + 1, r.1⟩ := by
  have hne : rowsFrom w m ds ≠ [] := by
    rw [← rowsM_start]
    intro z
    exact rowsM_ne w ds _ (by simp) (List.map_eq_nil_iff.mp z)
  obtain ⟨v, r, t, h1, h2, h3⟩ := sumB_least _ hne
  rw [← bestFrom_rows] at h3
  rw [← rowsM_start, List.filter_map] at h1
  have e : ((fun x : List (Option Nat) × Nat => x.2 == v) ∘ lostOf) = fun x : MRow => x.2.lost == v := rfl
  rw [e] at h1
  rw [← rowsM_start, List.filter_map, e] at h3
  generalize hF : (rowsM w [([], m)] ds).filter (fun x => x.2.lost == v) = F at h1 h3 ⊢
  cases F with
  | nil => simp at h1
  | cons r' t' =>
    rw [List.map_cons] at h1
    injection h1 with h1 h1'
    have hr : r'.1 = r := congrArg Prod.fst h1
    have hv : r'.2.lost = v := congrArg Prod.snd h1
    refine ⟨v, r', t', hF, hv, fun x hx => ?_, ?_⟩
    · exact h2 (lostOf x) (by rw [← rowsM_start]; exact List.mem_map_of_mem hx)
    · have := Option.some.inj h3
      rw [this, List.length_map, List.length_cons, hr]
theorem choices_may {m : Morning} {b : Option Nat} (h : b ∈ choices m) : MayB m b := by
  unfold choices at h
  rcases List.mem_cons.mp h with rfl | h
  · rfl
  · obtain ⟨i, hi, rfl⟩ := List.mem_map.mp h
    have := (List.mem_filter.mp hi).2
    unfold MayB
    simp [this]
/-! the rows' size -/
theorem choices_len (m : Morning) : (choices m).length ≤ m.places.length + 1 := by
  unfold choices
  rw [List.length_cons, List.length_map]
  have := List.length_filter_le m.may (List.range m.places.length)
  rw [List.length_range] at this
  omega
theorem flat_len {α β : Type} (g : α → List β) (k : Nat) : ∀ l : List α, (∀ x ∈ l, (g x).length ≤ k) → (l.flatMap g).length ≤ l.length * k
  | [], _ => by simp
  | x :: l, h => by
    have h1 := flat_len g k l fun y hy => h y (List.mem_cons_of_mem _ hy)
    have h2 := h x (List.mem_cons_self ..)
    rw [List.flatMap_cons, List.length_append, List.length_cons, Nat.add_mul]
    omega
/-! evenings -/
theorem last_take (m : Morning) : ∀ (l : List Morning) (k : Nat), k ≤ l.length → (m :: l)[k]? = some (last m (l.take k)) := by
  intro l k h
  cases k with
  | zero => rfl
  | succ k =>
    have hk : k < l.length := h
    have e : l.take (k + 1) = l.take k ++ [l[k]] := by rw [List.take_add_one, List.getElem?_eq_getElem hk]; rfl
    rw [List.getElem?_cons_succ, List.getElem?_eq_getElem hk, e]
    unfold last
    rw [List.getLast?_append]
    rfl
theorem follow_len (w : Nat) : ∀ (m : Morning) (ds : List Day) (bs : List (Option Nat)) (l : List Morning), follow w m ds bs = some l → l.length = ds.length
  | _, [], [], l, h => by
    have : l = [] := (Option.some.inj h).symm
    subst this
    rfl
  | m, d :: ds, b :: bs, l, h => by
    have h' : (if (b.any fun i => !m.may i) = true then none else (follow w ((m.cut b).next w d) ds bs).map fun l => (m.cut b).next w d :: l) = some l := h
    split at h'
    · cases h'
    · cases e : follow w ((m.cut b).next w d) ds bs with
      | none => rw [e] at h'; cases h'
      | some l' =>
        rw [e] at h'
        have := (Option.some.inj h').symm
        subst this
        rw [List.length_cons, List.length_cons, follow_len w _ ds bs l' e]
  | _, [], _ :: _, _, h => by cases h
  | _, _ :: _, [], _, h => by cases h
end Fs

set_option Elab.async false
namespace Fs
def nl (l : List Nat) : List Int := l.map fun (n : Nat) => (n : Int)
def plcS : List Nat → List Sw96.Place
  | a :: b :: l => ⟨a, b⟩ :: plcS l
  | _ => []
/-- a call at the head of a list of numbers, and what is behind it -/
inductive Reads : List Nat → Uw01.Call → List Nat → Prop
  | begins (wd : Nat) (row t : List Nat) : row.length % 2 = 0 → row.length ≤ 33 → Reads (0 :: wd :: row.length :: (row ++ t)) (.begins wd (plcS row)) t
  | day (a b c d m : Nat) (row t : List Nat) : row.length ≤ 16 → Reads (1 :: a :: b :: c :: d :: m :: row.length :: (row ++ t)) (.day ⟨[a, b, c, d], m, row⟩) t
  | drop (t : List Nat) : Reads (2 :: t) .drop t
  | follow (row t : List Nat) : row.length ≤ 16 → Reads (3 :: row.length :: (row ++ t)) (.follow (Uw01Neutral.breaksIn row)) t
  | best (t : List Nat) : Reads (4 :: t) .best t
  | evening (k : Nat) (row t : List Nat) : row.length ≤ 16 → Reads (5 :: k :: row.length :: (row ++ t)) (.evening k (Uw01Neutral.breaksIn row)) t
def Due (s : Uw01.Season) (cs : List (List (List Int))) : List Int :=
  PyFlat.told (PyFlat.played (fun s c => Uw01Neutral.step s (c.headD [])) s (cs.map PyUw01.whole))
/-- the list l is of calls that may be asked; from s on the answers due are d -/
def Ask (l : List Nat) (s : Uw01.Season) (d : List Int) : Prop :=
  ∃ f cs, PyFlat.calls PyUw01.shape f (nl l) = some cs ∧ (∀ c ∈ cs, Uw01Neutral.asked1 ((PyUw01.whole c).headD []) = true) ∧ d = Due s cs
theorem nl_inj_row {n : Int} {r x t : List Int} (h : PyFlat.row (n :: r) = some (x, t)) : 0 ≤ n ∧ x.length = n.toNat ∧ r = x ++ t := by
  have h' : (if 0 ≤ n ∧ n.toNat ≤ r.length then some (r.take n.toNat, r.drop n.toNat) else none) = some (x, t) := h
  by_cases c : 0 ≤ n ∧ n.toNat ≤ r.length
  · rw [if_pos c] at h'
    obtain ⟨e1, e2⟩ := Prod.mk.inj (Option.some.inj h')
    subst e1
    subst e2
    refine ⟨c.1, ?_, (List.take_append_drop _ _).symm⟩
    rw [List.length_take]
    omega
  · rw [if_neg c] at h'
    cases h'
theorem nl_append {l : List Nat} {x t : List Int} (h : nl l = x ++ t) : ∃ l1 l2, l = l1 ++ l2 ∧ x = nl l1 ∧ t = nl l2 := by
  obtain ⟨l1, l2, e, e1, e2⟩ := List.map_eq_append_iff.mp h
  exact ⟨l1, l2, e, e1.symm, e2.symm⟩
theorem nl_nat (l : List Nat) : (nl l).map Int.toNat = l := by
  unfold nl
  rw [List.map_map]
  conv => rhs; rw [← List.map_id l]
  refine List.map_congr_left fun n _ => ?_
  exact Int.toNat_natCast n
theorem nl_len (l : List Nat) : (nl l).length = l.length := by unfold nl; rw [List.length_map]
theorem rows1 {r : List Int} {xs : List (List Int)} {t : List Int} (h : PyFlat.rows 1 r = some (xs, t)) : ∃ x, PyFlat.row r = some (x, t) ∧ xs = [x] := by
  unfold PyFlat.rows at h
  split at h
  · cases h
  · rename_i x s e
    unfold PyFlat.rows at h
    obtain ⟨e1, e2⟩ := Prod.mk.inj (Option.some.inj h)
    subst e1
    subst e2
    exact ⟨x, e, rfl⟩
theorem placesIn_some : ∀ (n : Nat) (l : List Nat) (p : List Sw96.Place), Uw01Neutral.placesIn n l = some p → l.length = 2 * n ∧ p = plcS l
  | 0, [], p, h => by
    cases h
    exact ⟨rfl, rfl⟩
  | 0, _ :: _, p, h => by cases h
  | n + 1, [], p, h => by cases h
  | n + 1, [_], p, h => by cases h
  | n + 1, a :: b :: l, p, h => by
    have h' : (Uw01Neutral.placesIn n l).map (fun r => (⟨a, b⟩ : Sw96.Place) :: r) = some p := h
    cases e : Uw01Neutral.placesIn n l with
    | none => rw [e] at h'; cases h'
    | some r =>
      rw [e] at h'
      obtain ⟨e1, e2⟩ := placesIn_some n l r e
      have e3 : (⟨a, b⟩ : Sw96.Place) :: r = p := Option.some.inj h'
      subst e3
      subst e2
      refine ⟨?_, rfl⟩
      simp only [List.length_cons]
      omega
theorem callOf_in {c : List Int} {l : List Nat} (h : c = nl l) (x : Uw01.Call) : Uw01Neutral.callOf c = some x → Uw01Neutral.callIn l = some x := fun e => by
  subst h
  unfold Uw01Neutral.callOf at e
  split at e
  · cases e
  · rw [nl_nat] at e
    exact e
theorem listIn_some {l s : List Nat} {n : Nat} (h : Uw01Neutral.listIn (n :: l) = some s) : s = l ∧ l.length ≤ 16 := by
  have h' : (if n ≤ 16 ∧ l.length = n then some l else none) = some s := h
  by_cases c : n ≤ 16 ∧ l.length = n
  · rw [if_pos c] at h'
    cases h'
    exact ⟨rfl, by omega⟩
  · rw [if_neg c] at h'
    cases h'
theorem ask_nil {s : Uw01.Season} {d : List Int} (h : Ask [] s d) : d = [] := by
  obtain ⟨f, cs, h1, _, rfl⟩ := h
  have e : cs = [] := by
    cases f with
    | zero => cases h1; rfl
    | succ f => cases h1; rfl
  subst e
  rfl
theorem call_shape {p : Int} {r : List Int} {c : List (List Int)} {ti : List Int} {n k : Nat} (h : PyFlat.call PyUw01.shape (p :: r) = some (c, ti)) (hs : PyUw01.shape p = some (n, k)) :
    ¬ r.length < n ∧ ∃ xs, PyFlat.rows k (r.drop n) = some (xs, ti) ∧ c = (p :: r.take n) :: xs := by
  have h0 : (match PyUw01.shape p with
    | none => none
    | some (n, k) => if r.length < n then none else match PyFlat.rows k (r.drop n) with
      | none => none
      | some (xs, t) => some ((p :: r.take n) :: xs, t)) = some (c, ti) := h
  rw [hs] at h0
  have h' : (if r.length < n then none else match PyFlat.rows k (r.drop n) with
    | none => none
    | some (xs, t) => some ((p :: r.take n) :: xs, t)) = some (c, ti) := h0
  by_cases z : r.length < n
  · rw [if_pos z] at h'
    cases h'
  · rw [if_neg z] at h'
    refine ⟨z, ?_⟩
    cases e : PyFlat.rows k (r.drop n) with
    | none => rw [e] at h'; cases h'
    | some q =>
      obtain ⟨xs, t⟩ := q
      rw [e] at h'
      obtain ⟨e1, e2⟩ := Prod.mk.inj (Option.some.inj h')
      exact ⟨xs, by rw [← e2], e1.symm⟩
theorem shape_some {p : Int} {r : List Int} {q : List (List Int) × List Int} (h : PyFlat.call PyUw01.shape (p :: r) = some q) : p = 0 ∨ p = 1 ∨ p = 2 ∨ p = 3 ∨ p = 4 ∨ p = 5 := by
  by_cases h0 : p = 0
  · exact .inl h0
  by_cases h1 : p = 1
  · exact .inr (.inl h1)
  by_cases h2 : p = 2
  · exact .inr (.inr (.inl h2))
  by_cases h3 : p = 3
  · exact .inr (.inr (.inr (.inl h3)))
  by_cases h4 : p = 4
  · exact .inr (.inr (.inr (.inr (.inl h4))))
  by_cases h5 : p = 5
  · exact .inr (.inr (.inr (.inr (.inr h5))))
  exfalso
  have e : PyUw01.shape p = none := by
    unfold PyUw01.shape
    rw [if_neg h0, if_neg h1, if_neg h2, if_neg h3, if_neg h4, if_neg h5]
  have h0 : (match PyUw01.shape p with
    | none => none
    | some (n, k) => if r.length < n then none else match PyFlat.rows k (r.drop n) with
      | none => none
      | some (xs, t) => some ((p :: r.take n) :: xs, t)) = some q := h
  rw [e] at h0
  cases h0
/-- a call with numbers and one row -/
theorem call_row {p : Int} {r : List Nat} {c : List (List Int)} {ti : List Int} {n : Nat} (h : PyFlat.call PyUw01.shape (p :: nl r) = some (c, ti)) (hs : PyUw01.shape p = some (n, 1)) :
    ∃ (hd row t : List Nat), r = hd ++ (row.length :: (row ++ t)) ∧ hd.length = n ∧ ti = nl t ∧ c = [p :: nl hd, nl row] := by
  obtain ⟨h1, xs, e, e1⟩ := call_shape h hs
  obtain ⟨y, e3, e4⟩ := rows1 e
  subst e4
  cases e5 : (nl r).drop n with
  | nil => rw [e5] at e3; cases e3
  | cons m r2 =>
    rw [e5] at e3
    obtain ⟨k1, k2, k3⟩ := nl_inj_row e3
    have e6 : nl r = (nl r).take n ++ (m :: (y ++ ti)) := by rw [← k3, ← e5, List.take_append_drop]
    obtain ⟨l1, l2, a1, a2, a3⟩ := nl_append e6
    cases l2 with
    | nil => cases a3
    | cons m' l3 =>
      have a4 : m = (m' : Int) ∧ y ++ ti = nl l3 := ⟨(List.cons.inj a3).1, (List.cons.inj a3).2⟩
      obtain ⟨l4, l5, b1, b2, b3⟩ := nl_append a4.2.symm
      subst b2
      have hm : m' = l4.length := by
        rw [a4.1, nl_len] at k2
        simpa using k2.symm
      refine ⟨l1, l4, l5, ?_, ?_, b3, ?_⟩
      · rw [a1, b1, hm]
      · have := congrArg List.length a2
        rw [nl_len, List.length_take] at this
        omega
      · rw [e1, a2]
/-- a call without a row -/
theorem call_bare {p : Int} {r : List Nat} {c : List (List Int)} {ti : List Int} (h : PyFlat.call PyUw01.shape (p :: nl r) = some (c, ti)) (hs : PyUw01.shape p = some (0, 0)) : ti = nl r ∧ c = [[p]] := by
  obtain ⟨h1, xs, e, e1⟩ := call_shape h hs
  have e' : some (([] : List (List Int)), nl r) = some (xs, ti) := e
  obtain ⟨e2, e3⟩ := Prod.mk.inj (Option.some.inj e')
  subst e2
  exact ⟨e3.symm, e1⟩
/-- one call is read: as the call of the document -/
theorem call_reads {l : List Nat} {c : List (List Int)} {ti : List Int} (h : PyFlat.call PyUw01.shape (nl l) = some (c, ti)) {x : Uw01.Call} (hx : Uw01Neutral.callOf ((PyUw01.whole c).headD []) = some x) : ∃ t, ti = nl t ∧ Reads l x t := by
  cases l with
  | nil => cases h
  | cons p r =>
    have h' : PyFlat.call PyUw01.shape ((p : Int) :: nl r) = some (c, ti) := h
    rcases shape_some h' with e | e | e | e | e | e
    · have ep : p = 0 := by omega
      subst ep
      obtain ⟨hd, row, t, a1, a2, a3, a4⟩ := call_row h' (n := 1) rfl
      obtain ⟨wd, rfl⟩ : ∃ wd, hd = [wd] := List.length_eq_one_iff.mp a2
      subst a4
      have e : (PyUw01.whole [((0 : Nat) : Int) :: nl [wd], nl row]).headD [] = nl (0 :: wd :: (row.length / 2) :: row) := by
        show [(0 : Int)] ++ [(wd : Int)] ++ [((nl row).length : Int) / 2] ++ nl row = _
        rw [nl_len]
        rfl
      have hx4 : (if row.length / 2 ≤ 16 then (Uw01Neutral.placesIn (row.length / 2) row).map fun p => Uw01.Call.begins wd p else none) = some x := callOf_in e x hx
      by_cases hl : row.length / 2 ≤ 16
      · rw [if_pos hl] at hx4
        cases e : Uw01Neutral.placesIn (row.length / 2) row with
        | none => rw [e] at hx4; cases hx4
        | some pl =>
          rw [e] at hx4
          obtain ⟨b1, b2⟩ := placesIn_some _ _ _ e
          have : Uw01.Call.begins wd pl = x := Option.some.inj hx4
          subst this
          subst b2
          refine ⟨t, a3, ?_⟩
          rw [a1]
          exact Reads.begins wd row t (by omega) (by omega)
      · rw [if_neg hl] at hx4
        cases hx4
    · have ep : p = 1 := by omega
      subst ep
      obtain ⟨hd, row, t, a1, a2, a3, a4⟩ := call_row h' (n := 5) rfl
      match hd, a2, a4, a1 with
      | [u1, u2, u3, u4, u5], _, a4, a1 =>
        subst a4
        have e : (PyUw01.whole [((1 : Nat) : Int) :: nl [u1, u2, u3, u4, u5], nl row]).headD [] = nl (1 :: u1 :: u2 :: u3 :: u4 :: u5 :: row.length :: row) := by
          show [(1 : Int)] ++ [(u1 : Int)] ++ [(u2 : Int)] ++ [(u3 : Int)] ++ [(u4 : Int)] ++ [(u5 : Int)] ++ [((nl row).length : Int)] ++ nl row = _
          rw [nl_len]
          rfl
        have hx4 : (Uw01Neutral.listIn (row.length :: row)).map (fun s => Uw01.Call.day ⟨[u1, u2, u3, u4], u5, s⟩) = some x := callOf_in e x hx
        cases e : Uw01Neutral.listIn (row.length :: row) with
        | none => rw [e] at hx4; cases hx4
        | some sl =>
          rw [e] at hx4
          obtain ⟨b1, b2⟩ := listIn_some e
          have : Uw01.Call.day ⟨[u1, u2, u3, u4], u5, sl⟩ = x := Option.some.inj hx4
          subst this
          subst b1
          refine ⟨t, a3, ?_⟩
          rw [a1]
          exact Reads.day u1 u2 u3 u4 u5 _ t b2
    · have ep : p = 2 := by omega
      subst ep
      obtain ⟨a3, a4⟩ := call_bare h' rfl
      subst a4
      have hx4 : some Uw01.Call.drop = some x := callOf_in (l := [2]) rfl x hx
      cases hx4
      exact ⟨r, a3, Reads.drop r⟩
    · have ep : p = 3 := by omega
      subst ep
      obtain ⟨hd, row, t, a1, a2, a3, a4⟩ := call_row h' (n := 0) rfl
      obtain rfl : hd = [] := List.length_eq_zero_iff.mp a2
      subst a4
      have e : (PyUw01.whole [((3 : Nat) : Int) :: nl [], nl row]).headD [] = nl (3 :: row.length :: row) := by
        show [(3 : Int)] ++ [((nl row).length : Int)] ++ nl row = _
        rw [nl_len]
        rfl
      have hx4 : (Uw01Neutral.listIn (row.length :: row)).map (fun s => Uw01.Call.follow (Uw01Neutral.breaksIn s)) = some x := callOf_in e x hx
      cases e : Uw01Neutral.listIn (row.length :: row) with
      | none => rw [e] at hx4; cases hx4
      | some sl =>
        rw [e] at hx4
        obtain ⟨b1, b2⟩ := listIn_some e
        have : Uw01.Call.follow (Uw01Neutral.breaksIn sl) = x := Option.some.inj hx4
        subst this
        subst b1
        refine ⟨t, a3, ?_⟩
        rw [a1]
        exact Reads.follow _ t b2
    · have ep : p = 4 := by omega
      subst ep
      obtain ⟨a3, a4⟩ := call_bare h' rfl
      subst a4
      have hx4 : some Uw01.Call.best = some x := callOf_in (l := [4]) rfl x hx
      cases hx4
      exact ⟨r, a3, Reads.best r⟩
    · have ep : p = 5 := by omega
      subst ep
      obtain ⟨hd, row, t, a1, a2, a3, a4⟩ := call_row h' (n := 1) rfl
      obtain ⟨k, rfl⟩ : ∃ wd, hd = [wd] := List.length_eq_one_iff.mp a2
      subst a4
      have e : (PyUw01.whole [((5 : Nat) : Int) :: nl [k], nl row]).headD [] = nl (5 :: k :: row.length :: row) := by
        show [(5 : Int)] ++ [(k : Int)] ++ [((nl row).length : Int)] ++ nl row = _
        rw [nl_len]
        rfl
      have hx4 : (Uw01Neutral.listIn (row.length :: row)).map (fun s => Uw01.Call.evening k (Uw01Neutral.breaksIn s)) = some x := callOf_in e x hx
      cases e : Uw01Neutral.listIn (row.length :: row) with
      | none => rw [e] at hx4; cases hx4
      | some sl =>
        rw [e] at hx4
        obtain ⟨b1, b2⟩ := listIn_some e
        have : Uw01.Call.evening k (Uw01Neutral.breaksIn sl) = x := Option.some.inj hx4
        subst this
        subst b1
        refine ⟨t, a3, ?_⟩
        rw [a1]
        exact Reads.evening k _ t b2
/-- what is due at a call, and behind it -/
theorem ask_cons {p : Nat} {r : List Nat} {s : Uw01.Season} {d : List Int} (h : Ask (p :: r) s d) : ∃ x t d', Reads (p :: r) x t ∧
    d = ((Uw01Neutral.out (Uw01.step s x).2).length : Int) :: (Uw01Neutral.out (Uw01.step s x).2 ++ d') ∧ Ask t (Uw01.step s x).1 d' := by
  obtain ⟨f, cs, h1, h2, rfl⟩ := h
  cases f with
  | zero => cases h1
  | succ f =>
    have h1' : (match PyFlat.call PyUw01.shape (nl (p :: r)) with
      | none => none
      | some (c, t) => match PyFlat.calls PyUw01.shape f t with
        | none => none
        | some cs => some (c :: cs)) = some cs := h1
    cases e : PyFlat.call PyUw01.shape (nl (p :: r)) with
    | none => rw [e] at h1'; cases h1'
    | some q =>
      obtain ⟨c, ti⟩ := q
      rw [e] at h1'
      have h1'' : (match PyFlat.calls PyUw01.shape f ti with
        | none => none
        | some cs => some (c :: cs)) = some cs := h1'
      cases e2 : PyFlat.calls PyUw01.shape f ti with
      | none => rw [e2] at h1''; cases h1''
      | some cs' =>
        rw [e2] at h1''
        have e3 : c :: cs' = cs := Option.some.inj h1''
        subst e3
        have ha := h2 c (List.mem_cons_self ..)
        unfold Uw01Neutral.asked1 at ha
        cases e4 : Uw01Neutral.callOf ((PyUw01.whole c).headD []) with
        | none => rw [e4] at ha; cases ha
        | some x =>
          obtain ⟨t, rfl, hr⟩ := call_reads e e4
          have es : Uw01Neutral.step s ((PyUw01.whole c).headD []) = ((Uw01.step s x).1, Uw01Neutral.out (Uw01.step s x).2) := by
            unfold Uw01Neutral.step
            rw [e4]
          refine ⟨x, t, Due (Uw01.step s x).1 cs', hr, ?_, f, cs', e2, fun c' hc' => h2 c' (List.mem_cons_of_mem _ hc'), rfl⟩
          show PyFlat.told ((Uw01Neutral.step s ((PyUw01.whole c).headD [])).2 :: PyFlat.played (fun s c => Uw01Neutral.step s (c.headD [])) (Uw01Neutral.step s ((PyUw01.whole c).headD [])).1 (cs'.map PyUw01.whole)) = _
          rw [es]
          rfl
theorem told_len (l : List (List Int)) : (PyFlat.told l).length = l.length + (l.map List.length).sum := by
  unfold PyFlat.told
  induction l with
  | nil => rfl
  | cons x l ih =>
    rw [List.flatMap_cons, List.length_append, ih, List.length_cons, List.map_cons, List.sum_cons, List.length_cons]
    omega
theorem played_len : ∀ (cs : List (List (List Int))) (s : Uw01.Season), (PyFlat.played (fun s c => Uw01Neutral.step s (c.headD [])) s cs).length = cs.length ∧
    ((PyFlat.played (fun s c => Uw01Neutral.step s (c.headD [])) s cs).map List.length).sum = Uw01Neutral.many s (cs.map fun c => c.headD [])
  | [], s => ⟨rfl, rfl⟩
  | c :: cs, s => by
    obtain ⟨h1, h2⟩ := played_len cs (Uw01Neutral.step s (c.headD [])).1
    constructor
    · show (PyFlat.played _ _ cs).length + 1 = cs.length + 1
      rw [h1]
    · show ((Uw01Neutral.step s (c.headD [])).2.length :: (PyFlat.played (fun s c => Uw01Neutral.step s (c.headD [])) (Uw01Neutral.step s (c.headD [])).1 cs).map List.length).sum = (Uw01Neutral.step s (c.headD [])).2.length + Uw01Neutral.many (Uw01Neutral.step s (c.headD [])).1 (cs.map fun c => c.headD [])
      rw [List.sum_cons, h2]
/-- at the start -/
theorem ask_start {l : List Nat} (h : PyUw01.answers_asked (nl l) = true) : Ask l Uw01.init (PyUw01.answers (nl l)) ∧ (PyUw01.answers (nl l)).length ≤ 1000040 := by
  unfold PyUw01.answers_asked at h
  unfold PyUw01.answers
  cases e : PyUw01.calls (nl l) with
  | none => rw [e] at h; cases h
  | some cs =>
    rw [e] at h
    unfold PyUw01.calls at e
    cases e2 : PyFlat.calls PyUw01.shape (nl l).length (nl l) with
    | none => rw [e2] at e; cases e
    | some cs0 =>
      rw [e2] at e
      have e3 : cs0.map PyUw01.whole = cs := Option.some.inj e
      subst e3
      have h' : (PyFlat.atMost 40 (cs0.map PyUw01.whole) && Uw01Neutral.asked ((cs0.map PyUw01.whole).map fun c => c.headD [])) = true := h
      rw [Bool.and_eq_true] at h'
      obtain ⟨h1, h2⟩ := h'
      unfold Uw01Neutral.asked at h2
      rw [Bool.and_eq_true, Bool.and_eq_true, Bool.and_eq_true] at h2
      obtain ⟨g1, g2, g3, g4⟩ := h2
      refine ⟨⟨_, cs0, e2, fun c hc => ?_, rfl⟩, ?_⟩
      · have := List.all_eq_true.mp g1 ((PyUw01.whole c).headD []) (List.mem_map.mpr ⟨PyUw01.whole c, List.mem_map.mpr ⟨c, hc, rfl⟩, rfl⟩)
        exact this
      · show (PyFlat.told (PyFlat.played (fun s c => Uw01Neutral.step s (c.headD [])) Uw01Neutral.start (cs0.map PyUw01.whole))).length ≤ 1000040
        rw [told_len]
        obtain ⟨q1, q2⟩ := played_len (cs0.map PyUw01.whole) Uw01Neutral.start
        rw [q1, q2]
        have z1 := of_decide_eq_true h1
        have z2 := of_decide_eq_true g4
        omega
end Fs

set_option Elab.async false
namespace Fs
open Uw01 (Season Morning Day)
structure Good (s : Season) : Prop where
  w1 : 1 ≤ s.width
  w4 : s.width ≤ 4
  full : s.places.length % s.width = 0
  n16 : s.places.length ≤ 16
  slo : ∀ p ∈ s.places, p.slow ≤ 60
  few : s.days.length ≤ 3
  wind : ∀ d ∈ s.days, d.wind.length = 4
  mins : ∀ d ∈ s.days, d.minutes ≤ 100000
  str : ∀ d ∈ s.days, ∀ i ∈ d.strikes, i < s.places.length
  strl : ∀ d ∈ s.days, d.strikes.length ≤ 16
theorem good_init : Good Uw01.init := ⟨by decide, by decide, rfl, by decide, fun p h => by simp [Uw01.init] at h, by decide, fun d h => by simp [Uw01.init] at h, fun d h => by simp [Uw01.init] at h, fun d h => by simp [Uw01.init] at h, fun d h => by simp [Uw01.init] at h⟩
theorem Good.step {s : Season} {l t : List Nat} {x : Uw01.Call} (g : Good s) (h : Reads l x t) : Good (Uw01.step s x).1 := by
  cases h with
  | begins wd row _ _ _ =>
    show Good (if wd < 1 ∨ Uw01.SIDE < wd ∨ plcS row = [] ∨ (plcS row).length % wd ≠ 0 ∨ Uw01.SIDE * wd < (plcS row).length ∨ ((plcS row).all fun x => decide (x.slow ≤ Sw96.SLOW) && decide (x.worth ≤ Sw96.WORTH)) = false then (s, Uw01.ok (-1)) else ((⟨wd, plcS row, []⟩ : Season), Uw01.ok ((plcS row).length : Nat))).1
    split
    · exact g
    · rename_i hn
      have h1 : ¬ wd < 1 := fun z => hn (.inl z)
      have h2 : ¬ 4 < wd := fun z => hn (.inr (.inl z))
      have h3 : (plcS row).length % wd = 0 := Decidable.byContradiction fun z => hn (.inr (.inr (.inr (.inl z))))
      have h4 : ¬ 4 * wd < (plcS row).length := fun z => hn (.inr (.inr (.inr (.inr (.inl z)))))
      have h5 : ((plcS row).all fun x => decide (x.slow ≤ Sw96.SLOW) && decide (x.worth ≤ Sw96.WORTH)) = true := by
        cases e : ((plcS row).all fun x => decide (x.slow ≤ Sw96.SLOW) && decide (x.worth ≤ Sw96.WORTH)) with
        | true => rfl
        | false => exact absurd (.inr (.inr (.inr (.inr (.inr e))))) hn
      refine ⟨by show 1 ≤ wd; omega, by show wd ≤ 4; omega, h3, by show (plcS row).length ≤ 16; omega, fun p hp => ?_, by show 0 ≤ 3; decide, fun d h => by simp at h, fun d h => by simp at h, fun d h => by simp at h, fun d h => by simp at h⟩
      have := (List.all_eq_true.mp h5) p hp
      rw [Bool.and_eq_true] at this
      exact of_decide_eq_true this.1
  | day a b c d m row _ hr =>
    show Good (if Uw01.dayOk s ⟨[a, b, c, d], m, row⟩ = false then (s, Uw01.ok (-1)) else if Uw01.DAYS ≤ s.days.length then (s, Uw01.ok (-5)) else ({ s with days := s.days ++ [⟨[a, b, c, d], m, row⟩] }, Uw01.ok (s.days.length + 1 : Nat))).1
    split
    · exact g
    · rename_i h1
      split
      · exact g
      · rename_i h2
        have h1' : Uw01.dayOk s ⟨[a, b, c, d], m, row⟩ = true := by simpa using h1
        unfold Uw01.dayOk at h1'
        rw [Bool.and_eq_true, Bool.and_eq_true, Bool.and_eq_true, Bool.and_eq_true] at h1'
        obtain ⟨e1, e2, e3, e4, e5⟩ := h1'
        have h2' : ¬ 3 ≤ s.days.length := h2
        have all : ∀ {p : Day → Prop}, (∀ d ∈ s.days, p d) → p ⟨[a, b, c, d], m, row⟩ → ∀ d' ∈ s.days ++ [⟨[a, b, c, d], m, row⟩], p d' := fun h1 h2 d' hd' => by
          rcases List.mem_append.mp hd' with h | h
          · exact h1 d' h
          · rw [List.mem_singleton.mp h]
            exact h2
        refine ⟨g.w1, g.w4, g.full, g.n16, g.slo, ?_, all g.wind rfl, all g.mins (of_decide_eq_true e3), all g.str (fun i hi => of_decide_eq_true ((List.all_eq_true.mp e5) i hi)), all g.strl hr⟩
        show (s.days ++ [_]).length ≤ 3
        rw [List.length_append]
        show s.days.length + 1 ≤ 3
        omega
  | drop _ =>
    show Good (if s.days = [] then (s, Uw01.ok (-4)) else ({ s with days := s.days.dropLast }, Uw01.ok (s.days.length - 1 : Nat))).1
    split
    · exact g
    · have sub : ∀ d ∈ s.days.dropLast, d ∈ s.days := fun d h => List.dropLast_subset _ h
      refine ⟨g.w1, g.w4, g.full, g.n16, g.slo, ?_, fun d h => g.wind d (sub d h), fun d h => g.mins d (sub d h), fun d h => g.str d (sub d h), fun d h => g.strl d (sub d h)⟩
      show s.days.dropLast.length ≤ 3
      rw [List.length_dropLast]
      have := g.few
      omega
  | follow row _ _ =>
    show Good (if Uw01.breaksOk s (Uw01Neutral.breaksIn row) = false then (s, Uw01.ok (-1)) else (s, _)).1
    split <;> exact g
  | best _ => exact g
  | evening k row _ _ =>
    show Good (if Uw01.breaksOk s (Uw01Neutral.breaksIn row) = false ∨ s.days.length < k then (s, Uw01.ok (-1)) else (s, _)).1
    split <;> exact g
end Fs

section
set_option Elab.async false
set_option linter.all false
set_option maxRecDepth 100000
set_option maxHeartbeats 2000000
namespace L2
open PySem PySem.Spec PyProof.Rows
open PySem.W (WData Codec OpenSpec Well WellAll ReadsW ReadsAllW)
/-! ### an answer as data -/
mutual
/-- x stands for the datum d, lists and tuples all the way -/
inductive Dw (K : PySem.W.Frag) (H : Hp) : V → WData → Prop
  | non : Dw K H .non .none
  | bl (b : Bool) : Dw K H (.bl b) (.bool b)
  | int (i : Int) : Dw K H (.int i) (.int i)
  | str (x : Str) : Dw K H (.str x) (.str x)
  | byt (b : Array UInt8) : Dw K H (.byt b) (.bytes b.toList)
  | lst {a : Addr} {xs : List V} {ds : List WData} : SqL K H a xs → DwAll K H xs ds → Dw K H (.ref a) (.list ds)
  | tup {a : Addr} {xs : List V} {ds : List WData} : SqT K H a xs → DwAll K H xs ds → Dw K H (.ref a) (.tuple ds)
inductive DwAll (K : PySem.W.Frag) (H : Hp) : List V → List WData → Prop
  | nil : DwAll K H [] []
  | cons {v : V} {vs : List V} {d : WData} {ds : List WData} : Dw K H v d → DwAll K H vs ds → DwAll K H (v :: vs) (d :: ds)
end
theorem dw_ints {K : PySem.W.Frag} {H : Hp} : ∀ ns : List Int, DwAll K H (ns.map V.int) (ns.map WData.int)
  | [] => .nil
  | n :: r => .cons (.int n) (dw_ints r)
theorem ints_dw {K : PySem.W.Frag} {H : Hp} : ∀ (ns : List Int) (xs : List V), DwAll K H xs (ns.map WData.int) → xs = ns.map V.int
  | [], xs, h => by
    cases h
    rfl
  | n :: r, xs, h => by
    cases h with
    | cons h1 h2 =>
      cases h1
      rw [ints_dw r _ h2] <;> rfl
section
variable {P : Program} {w : World} {K : PySem.W.Frag} {H : Hp} {h : Heap} {R : PySem.W.WRecords} {cl : Str → Option Addr}
theorem sqL_at {a : Addr} {xs : List V} (hok : HOk P w H h) (KX : K.In h) (q : SqL K H a xs) : ∃ (its : List Value) (o : Obj) (n : Nat), Vals xs its ∧ h.get? a = some o ∧ o.cls = .type "list" ∧ o.data = .seq its.toArray n := by
  rcases q with q | ⟨o, its, n, e, hc, _, hd, _, hv⟩
  · obtain ⟨_, its, n, hv, e⟩ := (show ObjOk P w H h a (.lst xs) from q.ok hok)
    exact ⟨its, _, n, hv, e, rfl, rfl⟩
  · exact ⟨its.toList, o, n, hv, KX _ _ e, hc, by simp [hd]⟩
theorem sqT_at {a : Addr} {xs : List V} (hok : HOk P w H h) (KX : K.In h) (q : SqT K H a xs) : ∃ (its : List Value) (o : Obj) (n : Nat), Vals xs its ∧ h.get? a = some o ∧ o.cls = .type "tuple" ∧ o.data = .seq its.toArray n := by
  rcases q with q | ⟨o, its, n, e, hc, hd, _, hv⟩
  · obtain ⟨_, its, hv, o, e, hc, n, hd⟩ := (show ObjOk P w H h a (.tup xs) from q.ok hok)
    exact ⟨its, o, n, hv, e, hc, hd⟩
  · exact ⟨its.toList, o, n, hv, KX _ _ e, hc, by simp [hd]⟩
mutual
theorem Dw.reads (hok : HOk P w H h) (KX : K.In h) : ∀ (d : WData) (v : V) (u : Value), Dw K H v d → RelV v u → ∃ as, ReadsW R cl h u d as
  | .none, _, _, x, r => by
    cases x
    cases r
    exact ⟨_, ReadsW.none⟩
  | .bool b, _, _, x, r => by
    cases x
    cases r
    exact ⟨_, ReadsW.bool b⟩
  | .int i, _, _, x, r => by
    cases x
    obtain ⟨t, rfl⟩ := r
    exact ⟨_, ReadsW.int i t⟩
  | .str s, _, _, x, r => by
    cases x
    obtain ⟨t, rfl⟩ := r
    exact ⟨_, ReadsW.str s t⟩
  | .bytes b, _, _, x, r => by
    cases x
    obtain ⟨t, rfl⟩ := r
    exact ⟨_, ReadsW.bytes _ t⟩
  | .list ds, _, _, x, r => by
    cases x with
    | lst hs ha =>
      cases r
      obtain ⟨its, o, n, rv, ho, hc, hd⟩ := sqL_at hok KX hs
      obtain ⟨as, hr⟩ := Dw.readsAll hok KX ds _ its ha rv
      exact ⟨_, ReadsW.list ho hc hd hr⟩
  | .tuple ds, _, _, x, r => by
    cases x with
    | tup hs ha =>
      cases r
      obtain ⟨its, o, n, rv, ho, hc, hd⟩ := sqT_at hok KX hs
      obtain ⟨as, hr⟩ := Dw.readsAll hok KX ds _ its ha rv
      exact ⟨_, ReadsW.tuple ho hc hd hr⟩
  | .float _, _, _, x, _ => by cases x
  | .dict _, _, _, x, _ => by cases x
  | .bytearray _, _, _, x, _ => by cases x
  | .set _, _, _, x, _ => by cases x
  | .frozenset _, _, _, x, _ => by cases x
  | .obj _ _, _, _, x, _ => by cases x
theorem Dw.readsAll (hok : HOk P w H h) (KX : K.In h) : ∀ (ds : List WData) (vs : List V) (us : List Value), DwAll K H vs ds → Vals vs us → ∃ as, ReadsAllW R cl h us ds as
  | [], _, _, x, r => by
    cases x
    cases r
    exact ⟨_, ReadsAllW.nil⟩
  | d :: ds, _, _, x, r => by
    cases x with
    | cons h1 h2 =>
      cases r with
      | cons r1 r2 =>
        obtain ⟨as, q1⟩ := Dw.reads hok KX d _ _ h1 r1
        obtain ⟨bs, q2⟩ := Dw.readsAll hok KX ds _ _ h2 r2
        exact ⟨_, ReadsAllW.cons q1 q2⟩
end
end
/-! ### the arguments -/
mutual
/-- data that a codec tells -/
def plW : WData → Bool
  | .none => true
  | .bool _ => true
  | .int _ => true
  | .str _ => true
  | .bytes _ => true
  | .list xs => plWs xs
  | .tuple xs => plWs xs
  | _ => false
def plWs : List WData → Bool
  | [] => true
  | x :: r => plW x && plWs r
end
theorem plWs_map {α : Type} {f : α → WData} (h : ∀ a, plW (f a) = true) : ∀ l : List α, plWs (l.map f) = true
  | [] => rfl
  | x :: r => by
    show (plW (f x) && plWs (r.map f)) = true
    rw [h x, plWs_map h r] <;> rfl
theorem pl_enc : ∀ (c : Codec) (a : c.denote), plW (c.enc a) = true
  | .unit, _ => rfl
  | .bool, _ => rfl
  | .int _ _, _ => rfl
  | .nat _ _, _ => rfl
  | .u8, _ => rfl
  | .bytes _ _, _ => rfl
  | .text _ _ _ _, _ => rfl
  | .list _ _ c, a => plWs_map (fun x => pl_enc c x) a
  | .pair c d, a => by
    show (plW (c.enc a.1) && (plW (d.enc a.2) && true)) = true
    rw [pl_enc c a.1, pl_enc d a.2] <;> rfl
  | .triple c d e, a => by
    show (plW (c.enc a.1) && (plW (d.enc a.2.1) && (plW (e.enc a.2.2) && true))) = true
    rw [pl_enc c a.1, pl_enc d a.2.1, pl_enc e a.2.2] <;> rfl
  | .option c, none => rfl
  | .option c, some x => pl_enc c x
theorem pl_encAll : ∀ (cs : List Codec) (a : Codec.denoteAll cs), plWs (Codec.encAll cs a) = true
  | [], _ => rfl
  | c :: cs, a => by
    show (plW (c.enc a.1) && plWs (Codec.encAll cs a.2)) = true
    rw [pl_enc c a.1, pl_encAll cs a.2] <;> rfl
theorem weight_mem : ∀ {xs : List WData} {d : WData}, d ∈ xs → d.weight ≤ WData.weightAll xs
  | [], d, h => absurd h (by simp)
  | x :: r, d, h => by
    show d.weight ≤ x.weight + 1 + WData.weightAll r
    rcases List.mem_cons.mp h with e | m
    · rw [e]
      omega
    · have z := weight_mem m
      omega
def toV : Value → V
  | .none => .non
  | .bool b => .bl b
  | .int i _ => .int i
  | .str x _ => .str x
  | .bytes b _ => .byt b
  | .ref a => .ref a
  | _ => .non
/-- a value of the arguments, its objects among A -/
def OkU (A : List Addr) : Value → Prop
  | .none => True
  | .bool _ => True
  | .int _ _ => True
  | .str _ _ => True
  | .bytes _ _ => True
  | .ref a => a ∈ A
  | _ => False
theorem OkU.mono {A B : List Addr} (h : ∀ a ∈ A, a ∈ B) : ∀ {u : Value}, OkU A u → OkU B u := fun {u} x => by
  cases u with
  | ref a => exact h a x
  | none => trivial
  | bool b => trivial
  | int i t => trivial
  | str s t => trivial
  | bytes b t => trivial
  | _ => exact False.elim x
theorem relV_toV {A : List Addr} {u : Value} (x : OkU A u) : RelV (toV u) u := by
  cases u with
  | ref a => rfl
  | none => rfl
  | bool b => rfl
  | int i t => exact ⟨t, rfl⟩
  | str s t => exact ⟨t, rfl⟩
  | bytes b t => exact ⟨t, rfl⟩
  | _ => exact False.elim x
theorem vals_toV {A : List Addr} : ∀ {vs : List Value}, (∀ u ∈ vs, OkU A u) → Vals (vs.map toV) vs
  | [], _ => .nil
  | u :: r, h => .cons (relV_toV (h u (List.mem_cons_self ..))) (vals_toV fun x hx => h x (List.mem_cons_of_mem _ hx))
/-- an object of the arguments -/
def ArgOb (h : Heap) (A : List Addr) (a : Addr) : Prop := ∃ vs : List Value, vs.length ≤ sizeLine ∧ (∀ u ∈ vs, OkU A u) ∧
  (h.get? a = some { cls := .type "list", data := .seq vs.toArray } ∨ h.get? a = some { cls := .type "tuple", data := .seq vs.toArray })
theorem ArgOb.mono {h : Heap} {A B : List Addr} {a : Addr} (k : ∀ a ∈ A, a ∈ B) (x : ArgOb h A a) : ArgOb h B a := by
  obtain ⟨vs, h1, h2, h3⟩ := x
  exact ⟨vs, h1, fun u hu => (h2 u hu).mono k, h3⟩
theorem wellAll_len {P : Params} {h : Heap} : ∀ {vs : List Value} {ds : List WData}, WellAll P h vs ds → vs.length = ds.length
  | _, _, .nil => rfl
  | _, _, .cons _ b => by
    show _ + 1 = _ + 1
    rw [wellAll_len b]
theorem well_list {P : Params} {h : Heap} {v : Value} {ds : List WData} (x : Well P h v (.list ds)) : ∃ (a : Addr) (vs : List Value), v = .ref a ∧ h.get? a = some { cls := .type "list", data := .seq vs.toArray } ∧ WellAll P h vs ds := by
  cases x with
  | list ho hall => exact ⟨_, _, rfl, ho, hall⟩
theorem well_tuple {P : Params} {h : Heap} {v : Value} {ds : List WData} (x : Well P h v (.tuple ds)) : ∃ (a : Addr) (vs : List Value), v = .ref a ∧ h.get? a = some { cls := .type "tuple", data := .seq vs.toArray } ∧ WellAll P h vs ds := by
  cases x with
  | tuple ho hall => exact ⟨_, _, rfl, ho, hall⟩
theorem well_cons {P : Params} {h : Heap} {us : List Value} {d : WData} {ds : List WData} (x : WellAll P h us (d :: ds)) : ∃ (v : Value) (vs : List Value), us = v :: vs ∧ Well P h v d ∧ WellAll P h vs ds := by
  cases x with
  | cons a b => exact ⟨_, _, rfl, a, b⟩
theorem line_of {n : Nat} (h : n ≤ 1048576) : n ≤ sizeLine := Nat.le_trans h (by decide)
section
variable {P : Params} {h : Heap}
mutual
theorem area_one : ∀ (d : WData) (v : Value), Well P h v d → plW d = true → d.weight ≤ 1048576 → ∃ A : List Addr, OkU A v ∧ ∀ a ∈ A, ArgOb h A a
  | .none, _, x, _, _ => by
    cases x
    exact ⟨[], trivial, fun a m => absurd m (by simp)⟩
  | .bool b, _, x, _, _ => by
    cases x
    exact ⟨[], trivial, fun a m => absurd m (by simp)⟩
  | .int i, _, x, _, _ => by
    cases x
    exact ⟨[], trivial, fun a m => absurd m (by simp)⟩
  | .str s, _, x, _, _ => by
    cases x
    exact ⟨[], trivial, fun a m => absurd m (by simp)⟩
  | .bytes b, _, x, _, _ => by
    cases x
    exact ⟨[], trivial, fun a m => absurd m (by simp)⟩
  | .list ds, _, x, p, z => by
    obtain ⟨a, vs, rfl, ho, hall⟩ := well_list x
    have z2 : WData.weightAll ds ≤ 1048576 := z
    obtain ⟨A, h1, h2⟩ := area_all ds _ hall p fun d hd => Nat.le_trans (weight_mem hd) z2
    have k : ∀ b ∈ A, b ∈ a :: A := fun b hb => List.mem_cons_of_mem _ hb
    refine ⟨a :: A, List.mem_cons_self .., fun b hb => ?_⟩
    rcases List.mem_cons.mp hb with e | m
    · rw [e]
      exact ⟨vs, line_of (by rw [wellAll_len hall]; exact Nat.le_trans (PySem.W.length_le_weightAllW ds) z2), fun u hu => (h1 u hu).mono k, .inl ho⟩
    · exact (h2 b m).mono k
  | .tuple ds, _, x, p, z => by
    obtain ⟨a, vs, rfl, ho, hall⟩ := well_tuple x
    have z2 : WData.weightAll ds ≤ 1048576 := z
    obtain ⟨A, h1, h2⟩ := area_all ds _ hall p fun d hd => Nat.le_trans (weight_mem hd) z2
    have k : ∀ b ∈ A, b ∈ a :: A := fun b hb => List.mem_cons_of_mem _ hb
    refine ⟨a :: A, List.mem_cons_self .., fun b hb => ?_⟩
    rcases List.mem_cons.mp hb with e | m
    · rw [e]
      exact ⟨vs, line_of (by rw [wellAll_len hall]; exact Nat.le_trans (PySem.W.length_le_weightAllW ds) z2), fun u hu => (h1 u hu).mono k, .inr ho⟩
    · exact (h2 b m).mono k
  | .float _, _, _, p, _ => Bool.noConfusion (show false = true from p)
  | .dict _, _, _, p, _ => Bool.noConfusion (show false = true from p)
  | .bytearray _, _, _, p, _ => Bool.noConfusion (show false = true from p)
  | .set _, _, _, p, _ => Bool.noConfusion (show false = true from p)
  | .frozenset _, _, _, p, _ => Bool.noConfusion (show false = true from p)
  | .obj _ _, _, _, p, _ => Bool.noConfusion (show false = true from p)
theorem area_all : ∀ (ds : List WData) (vs : List Value), WellAll P h vs ds → plWs ds = true → (∀ d ∈ ds, d.weight ≤ 1048576) → ∃ A : List Addr, (∀ u ∈ vs, OkU A u) ∧ ∀ a ∈ A, ArgOb h A a
  | [], _, x, _, _ => by
    cases x
    exact ⟨[], fun u m => absurd m (by simp), fun a m => absurd m (by simp)⟩
  | d :: ds, _, x, p, z => by
    obtain ⟨v, vs, rfl, x1, x2⟩ := well_cons x
    have q : plW d = true ∧ plWs ds = true := Bool.and_eq_true_iff.mp p
    obtain ⟨A, a1, a2⟩ := area_one d v x1 q.1 (z d (List.mem_cons_self ..))
    obtain ⟨B, b1, b2⟩ := area_all ds vs x2 q.2 fun e he => z e (List.mem_cons_of_mem _ he)
    have kA : ∀ b ∈ A, b ∈ A ++ B := fun b hb => List.mem_append.mpr (.inl hb)
    have kB : ∀ b ∈ B, b ∈ A ++ B := fun b hb => List.mem_append.mpr (.inr hb)
    refine ⟨A ++ B, fun u hu => ?_, fun b hb => ?_⟩
    · rcases List.mem_cons.mp hu with e | m
      · rw [e]
        exact a1.mono kA
      · exact (b1 u m).mono kB
    · rcases List.mem_append.mp hb with m | m
      · exact (a2 b m).mono kA
      · exact (b2 b m).mono kB
end
end
/-- what is tracked of an argument's object -/
def hoOf (o : Obj) : Option HO := match o.data with
  | .seq vs _ => if (o.cls == Value.type "list") = true then some (.frz o (.lst (vs.toList.map toV))) else some (.frz o (.tup (vs.toList.map toV)))
  | _ => none
def argH (K : PySem.W.Frag) (h : Heap) (A : List Addr) : Hp := fun b => if b ∈ A then (if (K.lookup b).isNone = true then (h.get? b).bind hoOf else none) else none
/-- nothing is tracked but what is known to the object -/
def OnlyF (H : Hp) : Prop := ∀ b, H b = none ∨ ∃ o u, H b = some (.frz o u)
theorem hoOf_lst (vs : List Value) : hoOf { cls := .type "list", data := .seq vs.toArray } = some (.frz { cls := .type "list", data := .seq vs.toArray } (.lst (vs.map toV))) := by
  show (if (Value.type "list" == Value.type "list") = true then some (HO.frz { cls := .type "list", data := .seq vs.toArray } (.lst (vs.toArray.toList.map toV))) else some (HO.frz { cls := .type "list", data := .seq vs.toArray } (.tup (vs.toArray.toList.map toV)))) = _
  rw [if_pos (beq_self_eq_true _)]
theorem hoOf_tup (vs : List Value) : hoOf { cls := .type "tuple", data := .seq vs.toArray } = some (.frz { cls := .type "tuple", data := .seq vs.toArray } (.tup (vs.map toV))) := by
  show (if (Value.type "tuple" == Value.type "list") = true then some (HO.frz { cls := .type "tuple", data := .seq vs.toArray } (.lst (vs.toArray.toList.map toV))) else some (HO.frz { cls := .type "tuple", data := .seq vs.toArray } (.tup (vs.toArray.toList.map toV)))) = _
  rw [if_neg (by decide)]
section
variable {P : Program} {w : World} {K : PySem.W.Frag} {h : Heap} {A : List Addr}
theorem argH_at {b : Addr} {o : Obj} (hb : b ∈ A) (hk : K.lookup b = none) (e : h.get? b = some o) : argH K h A b = hoOf o := by
  unfold argH
  rw [if_pos hb, hk, if_pos (show (none : Option Obj).isNone = true from rfl), e] <;> rfl
theorem of_argH {b : Addr} {u : HO} (q : argH K h A b = some u) : b ∈ A ∧ K.lookup b = none := by
  unfold argH at q
  by_cases hb : b ∈ A
  · rw [if_pos hb] at q
    cases hk : K.lookup b with
    | none => exact ⟨hb, rfl⟩
    | some o =>
      rw [hk, if_neg (by simp)] at q
      cases q
  · rw [if_neg hb] at q
    cases q
/-- what stands tracked -/
theorem argH_is (ar : ∀ a ∈ A, ArgOb h A a) {b : Addr} {u : HO} (q : argH K h A b = some u) : K.lookup b = none ∧ ∃ vs : List Value, vs.length ≤ sizeLine ∧ (∀ u ∈ vs, OkU A u) ∧
    ((h.get? b = some { cls := .type "list", data := .seq vs.toArray } ∧ u = .frz { cls := .type "list", data := .seq vs.toArray } (.lst (vs.map toV))) ∨
     (h.get? b = some { cls := .type "tuple", data := .seq vs.toArray } ∧ u = .frz { cls := .type "tuple", data := .seq vs.toArray } (.tup (vs.map toV)))) := by
  obtain ⟨hb, hk⟩ := of_argH q
  obtain ⟨vs, h1, h2, h3⟩ := ar b hb
  refine ⟨hk, vs, h1, h2, ?_⟩
  rcases h3 with e | e
  · rw [argH_at hb hk e, hoOf_lst] at q
    exact .inl ⟨e, (Option.some.inj q).symm⟩
  · rw [argH_at hb hk e, hoOf_tup] at q
    exact .inr ⟨e, (Option.some.inj q).symm⟩
theorem argH_only (ar : ∀ a ∈ A, ArgOb h A a) : OnlyF (argH K h A) := fun b => by
  cases q : argH K h A b with
  | none => exact .inl rfl
  | some u =>
    obtain ⟨_, vs, _, _, ⟨_, e⟩ | ⟨_, e⟩⟩ := argH_is ar q
    · exact .inr ⟨_, _, by rw [e]⟩
    · exact .inr ⟨_, _, by rw [e]⟩
theorem argH_ok (ar : ∀ a ∈ A, ArgOb h A a) : HOk P w (argH K h A) h := fun b u q => by
  obtain ⟨_, vs, h1, h2, ⟨e, rfl⟩ | ⟨e, rfl⟩⟩ := argH_is ar q
  · exact ⟨e, by rw [List.length_map]; exact h1, vs, _, vals_toV h2, e⟩
  · exact ⟨e, by rw [List.length_map]; exact h1, vs, vals_toV h2, _, e, rfl, _, rfl⟩
theorem seq_inj {c c' : Value} {vs us : List Value} (e : (some { cls := c, data := .seq vs.toArray } : Option Obj) = some { cls := c', data := .seq us.toArray }) : c = c' ∧ vs = us := by
  have e1 := Option.some.inj e
  have e2 : c = c' := congrArg Obj.cls e1
  have e3 : Data.seq vs.toArray = Data.seq us.toArray := congrArg Obj.data e1
  injection e3 with e4
  refine ⟨e2, ?_⟩
  have e5 := congrArg Array.toList e4
  simpa using e5
/-- a list argument -/
theorem argL (KX : K.In h) (ar : ∀ a ∈ A, ArgOb h A a) {a : Addr} {vs : List Value} (ha : a ∈ A) (e : h.get? a = some { cls := .type "list", data := .seq vs.toArray }) : (∀ u ∈ vs, OkU A u) ∧ SqL K (argH K h A) a (vs.map toV) := by
  obtain ⟨us, h1, h2, h3⟩ := ar a ha
  have hu : us = vs := by
    rcases h3 with q | q
    · rw [e] at q
      exact (seq_inj q).2.symm
    · rw [e] at q
      exact absurd (Value.type.inj (seq_inj q).1) (by decide)
  subst hu
  refine ⟨h2, ?_⟩
  cases hk : K.lookup a with
  | none => exact .inl (.inr ⟨_, by rw [argH_at ha hk e, hoOf_lst]⟩)
  | some o =>
    have e2 := KX a o hk
    rw [e] at e2
    obtain rfl := Option.some.inj e2
    exact .inr ⟨_, us.toArray, _, hk, rfl, rfl, rfl, by rw [List.size_toArray]; exact h1, by simpa using vals_toV h2⟩
theorem argT (KX : K.In h) (ar : ∀ a ∈ A, ArgOb h A a) {a : Addr} {vs : List Value} (ha : a ∈ A) (e : h.get? a = some { cls := .type "tuple", data := .seq vs.toArray }) : (∀ u ∈ vs, OkU A u) ∧ SqT K (argH K h A) a (vs.map toV) := by
  obtain ⟨us, h1, h2, h3⟩ := ar a ha
  have hu : us = vs := by
    rcases h3 with q | q
    · rw [e] at q
      exact absurd (Value.type.inj (seq_inj q).1) (by decide)
    · rw [e] at q
      exact (seq_inj q).2.symm
  subst hu
  refine ⟨h2, ?_⟩
  cases hk : K.lookup a with
  | none => exact .inl (.inr ⟨_, by rw [argH_at ha hk e, hoOf_tup]⟩)
  | some o =>
    have e2 := KX a o hk
    rw [e] at e2
    obtain rfl := Option.some.inj e2
    exact .inr ⟨_, us.toArray, _, hk, rfl, rfl, by rw [List.size_toArray]; exact h1, by simpa using vals_toV h2⟩
mutual
theorem dw_one {Pm : Params} (KX : K.In h) (ar : ∀ a ∈ A, ArgOb h A a) : ∀ (d : WData) (v : Value), Well Pm h v d → plW d = true → OkU A v → Dw K (argH K h A) (toV v) d
  | .none, _, x, _, _ => by
    cases x
    exact .non
  | .bool b, _, x, _, _ => by
    cases x
    exact .bl b
  | .int i, _, x, _, _ => by
    cases x
    exact .int i
  | .str s, _, x, _, _ => by
    cases x
    exact .str s
  | .bytes b, _, x, _, _ => by
    cases x
    have z := Dw.byt (K := K) (H := argH K h A) b.toArray
    exact z
  | .list ds, _, x, p, hu => by
    obtain ⟨a, vs, rfl, ho, hall⟩ := well_list x
    obtain ⟨h2, hs⟩ := argL KX ar hu ho
    exact .lst hs (dw_all KX ar ds _ hall p h2)
  | .tuple ds, _, x, p, hu => by
    obtain ⟨a, vs, rfl, ho, hall⟩ := well_tuple x
    obtain ⟨h2, hs⟩ := argT KX ar hu ho
    exact .tup hs (dw_all KX ar ds _ hall p h2)
  | .float _, _, _, p, _ => Bool.noConfusion (show false = true from p)
  | .dict _, _, _, p, _ => Bool.noConfusion (show false = true from p)
  | .bytearray _, _, _, p, _ => Bool.noConfusion (show false = true from p)
  | .set _, _, _, p, _ => Bool.noConfusion (show false = true from p)
  | .frozenset _, _, _, p, _ => Bool.noConfusion (show false = true from p)
  | .obj _ _, _, _, p, _ => Bool.noConfusion (show false = true from p)
theorem dw_all {Pm : Params} (KX : K.In h) (ar : ∀ a ∈ A, ArgOb h A a) : ∀ (ds : List WData) (vs : List Value), WellAll Pm h vs ds → plWs ds = true → (∀ u ∈ vs, OkU A u) → DwAll K (argH K h A) (vs.map toV) ds
  | [], _, x, _, _ => by
    cases x
    exact .nil
  | d :: ds, _, x, p, hu => by
    obtain ⟨v, vs, rfl, x1, x2⟩ := well_cons x
    have q : plW d = true ∧ plWs ds = true := Bool.and_eq_true_iff.mp p
    exact .cons (dw_one KX ar d v x1 q.1 (hu _ (List.mem_cons_self ..))) (dw_all KX ar ds vs x2 q.2 fun u m => hu u (List.mem_cons_of_mem _ m))
end
end
/-! ### the call -/
theorem spec_call {P : Program} {w : World} {K : PySem.W.Frag} {mg mb : Str → Option Value} {CX : CXT} {k : Nat} {fa : Addr} {fd : FuncData} {ps : List Str} {sp : Sp} {s₁ : Shared} {vals : List Value} {ds : List WData} {R : PySem.W.WRecords} {cl : Str → Option Addr} {d0 : WData}
    (KX : K.In s₁.heap) (hns : s₁.heap.Ns mainGlobals mg) (hb : s₁.heap.Ns builtinsNs mb) (hbb : ∀ x : Str, x ≠ "__name__" → mb x = bootBuiltins x) (hlim : s₁.heap.NoLimit) (hg : s₁.gens = #[])
    (hwl : WellAll w.params s₁.heap vals ds) (hpl : plWs ds = true) (hwt : ∀ d ∈ ds, d.weight ≤ 1048576) (hr : Room k callerA)
    (F : ∀ base : Heap, K.In base → base.Ns mainGlobals mg → FnOk P w K mg base CX k fa fd ps sp) (hbind : ∀ (s : Shared) (us : List Value), us.length = ps.length → BindsTo s fd ⟨us, []⟩ (ps.zip us)) (hlen : ds.length = ps.length)
    (hsp : ∀ (H : Hp) (xs : List V), OnlyF H → DwAll K H xs ds → sp xs H (fun v H' => Dw K H' v d0) fun _ _ _ => False)
    (hCX : ∀ H e s', CX [] H s₁ (fun _ _ _ => False) e s' → False) :
    codeAny (model P w) callerA (.call (.ref fa) ⟨vals, []⟩) (fun r s' => ∃ u as, r = .ok (.ret u) ∧ ReadsW R cl s'.heap u d0 as ∧ OldK s₁.heap s'.heap ∧ s'.os = s₁.os ∧ AllBare s'.gens) s₁ := by
  obtain ⟨A, ho, ar⟩ := area_all ds vals hwl hpl hwt
  have hO : OnlyF (argH K s₁.heap A) := argH_only ar
  have hok : HOk P w (argH K s₁.heap A) s₁.heap := argH_ok ar
  have hS := dw_all KX ar ds vals hwl hpl ho
  have hV := vals_toV ho
  have hK : ∀ b u, argH K s₁.heap A b = some u → K.lookup b = none := fun b u q => (argH_is ar q).1
  have noA : ∀ {b : Addr} {o : Obj} {es : Array DictEntry} {ep : Nat}, s₁.heap.get? b = some o → o.data = .dict es ep → argH K s₁.heap A b = none := fun {b o es ep} e d => by
    cases q : argH K s₁.heap A b with
    | none => rfl
    | some u =>
      obtain ⟨_, vs, _, _, ⟨e2, _⟩ | ⟨e2, _⟩⟩ := argH_is ar q
      · rw [e2] at e
        cases e
        have d' : Data.seq vs.toArray _ = Data.dict es ep := d
        cases d'
      · rw [e2] at e
        cases e
        have d' : Data.seq vs.toArray _ = Data.dict es ep := d
        cases d'
  generalize argH K s₁.heap A = H at hO hok hS hK noA
  have base_of : ∀ {b : Addr} {o : Obj}, s₁.heap.get? b = some o → H b = none → (hidT s₁.heap H).get? b = some o := fun e n => hidT_get e n
  have nsK : ∀ {b : Addr} {m : Str → Option Value}, s₁.heap.Ns b m → (hidT s₁.heap H).Ns b m := fun {b m} ⟨o, es, ep, e, d, r⟩ => ⟨o, es, ep, base_of e (noA e d), d, r⟩
  have nK : ∀ b o, K.lookup b = some o → H b = none := fun b o e => by
    cases q : H b with
    | none => rfl
    | some u =>
      rw [hK b u q] at e
      cases e
  have hKb : K.In (hidT s₁.heap H) := fun b o e => base_of (KX b o e) (nK b o e)
  have hM : Mod K mg (hidT s₁.heap H) := ⟨hKb, nsK hns, ⟨mb, nsK hb, hbb⟩, let ⟨mc, h1, h2⟩ := hlim; ⟨mc, nsK h1, h2⟩⟩
  have e0 : Env0 P w K mg (hidT s₁.heap H) callerA [] s₁ H := ⟨rfl, hM, fun b o e => of_hidT e, Nat.le_of_eq (hidT_size _ _), trivial, fun b hb => absurd (show b ∈ ([] : List Addr) from hb) (by simp), hok, .of_eq hg⟩
  have hl : vals.length = ps.length := by rw [wellAll_len hwl]; exact hlen
  refine codeAny_mono ((F _ hKb (nsK hns)).run callerA [] s₁ H ⟨vals, []⟩ vals (vals.map toV) _ _ hr e0 (hbind s₁ vals hl) hV (hsp H _ hO hS)) fun r s' x => ?_
  cases r with
  | error e => exact (hCX H e s' x).elim
  | ok fl =>
    cases fl with
    | next => exact False.elim x
    | brk => exact False.elim x
    | cont => exact False.elim x
    | ret u =>
      obtain ⟨v, H', os, bare, un, hok', r', q⟩ := x
      have kept : ∀ b o, s₁.heap.get? b = some o → s'.heap.get? b = some o := fun b o e => by
        cases q2 : H b with
        | none => exact un.keep b o e q2 (by intro z; exact absurd (show b ∈ ([] : List Addr) from z) (by simp)) (by simp)
        | some u2 =>
          rcases hO b with z | ⟨ob, u3, z⟩
          · rw [q2] at z
            cases z
          · have z2 := un.frzs b ob _ z
            obtain ⟨e1, _⟩ := hok b _ z
            obtain ⟨e2, _⟩ := hok' b _ z2
            rw [e] at e1
            cases e1
            exact e2
      have KX' : K.In s'.heap := fun b o e => kept b o (KX b o e)
      obtain ⟨as, hrd⟩ := Dw.reads (R := R) (cl := cl) hok' KX' d0 v u q r'
      exact ⟨u, as, rfl, hrd, OldK.of_keep kept, os, bare⟩
/-! ### the row -/
theorem layable_weight {ds : List WData} (h : WData.layableAll ds = true) : ∀ d ∈ ds, d.weight ≤ 1048576 := fun d hd =>
  (PySem.W.layableW_iff.mp (List.all_eq_true.mp h d hd)).2.2
theorem encAll_len : ∀ (cs : List Codec) (a : Codec.denoteAll cs), (Codec.encAll cs a).length = cs.length
  | [], _ => rfl
  | c :: cs, a => by
    show (Codec.encAll cs a.2).length + 1 = cs.length + 1
    rw [encAll_len cs a.2]
/-- the goal that k_headS leaves (case hc), from the promise of the row's def: whatever the arguments that the codecs let and the row asks for, the def gives what stands for enc (f ..) -/
theorem walk_spec {r : OpenSpec} {k : Nat} {q : Program} {loose : List Str} {XP : (Str → Option Value) → Heap → Prop} {YP : World → Heap → Prop} {d : DefRec} {K : Params → PySem.W.Frag} {CX : World → CXT} {ps : List Str} {sp : World → Sp}
    (hwell : r.wellSaid = true) (hdf : d.params.defaults = []) (hlen : r.args.length = ps.length) (hr : Room k callerA)
    (hY : ∀ (w : World) (h : Heap), YP w h → (K w.params).In h)
    (F : ∀ (w : World) (mg : Str → Option Value) (fa : Addr) (h : Heap), YP w h → (K w.params).In h → h.Ns mainGlobals mg → mg d.name = some (.ref fa) →
      ∃ fd : FuncData, (∀ (s : Shared) (us : List Value), us.length = ps.length → BindsTo s fd ⟨us, []⟩ (ps.zip us)) ∧
        ∀ base : Heap, (K w.params).In base → base.Ns mainGlobals mg → FnOk r.prog w (K w.params) mg base (CX w) k fa fd ps (sp w))
    (hsp : ∀ (w : World) (H : Hp) (xs : List V) (a : Codec.denoteAll r.args), OnlyF H → Codec.withinAll r.args a = true → Codec.app r.args r.asked a = true → DwAll (K w.params) H xs (Codec.encAll r.args a) →
      sp w xs H (fun v H' => Dw (K w.params) H' v (r.ret.enc (Codec.app r.args r.f a))) fun _ _ _ => False)
    (hCX : ∀ (w : World) (H : Hp) (s : Shared) (e : Value) (s' : Shared), CX w [] H s (fun _ _ _ => False) e s' → False) :
    PySem.W.WalkOS q loose XP YP r d [] (fun f vs => PySem.call f vs) := by
  intro w s_0 s₁ mg mb G Y fa o pm cd doc dV kV ho hd hcd hD hmg hg args vals as hpre hlay hrd hwl hlo
  obtain ⟨a, e1, e2⟩ := PySem.W.os_pre_some hpre
  obtain ⟨e3, hwi⟩ := Codec.encAll_of_decAll r.args args a e1
  subst e3
  have KX := hY w _ Y
  obtain ⟨fd, hb, hF⟩ := F w mg fa _ Y KX G.T.g hmg
  refine PySem.W.enter_call (codeAny_mono (spec_call (R := []) (cl := classAt s_0.heap) (d0 := r.ret.enc (Codec.app r.args r.f a)) KX G.T.g G.T.b G.T.builtins G.T.nolimit hg hwl (pl_encAll _ _) (layable_weight hlay) hr hF hb (by rw [encAll_len]; exact hlen)
    (fun H xs hO hS => hsp w H xs a hO hwi e2 hS) fun H e s' => hCX w H s₁ e s') fun r' s' hq => ?_)
  obtain ⟨u, as', rfl, h1, h2, h3, h4⟩ := hq
  exact ⟨.inl ⟨u, _, as', rfl, fun _ => rfl, h1, (OpenSpec.post_iff hwell hwi _ _).mpr rfl, fun z => Bool.noConfusion (show false = true from z)⟩, h2, h3, h4⟩
/-- the same where the promise hangs on the written part alone -/
theorem walk_specK {r : OpenSpec} {k : Nat} {q : Program} {loose : List Str} {XP : (Str → Option Value) → Heap → Prop} {YP : World → Heap → Prop} {d : DefRec} {K : Params → PySem.W.Frag} {CX : CXT} {ps : List Str} {sp : PySem.W.Frag → Sp}
    (hwell : r.wellSaid = true) (hdf : d.params.defaults = []) (hlen : r.args.length = ps.length) (hr : Room k callerA)
    (hY : ∀ (w : World) (h : Heap), YP w h → (K w.params).In h)
    (F : ∀ (w : World) (mg : Str → Option Value) (fa : Addr) (h : Heap), YP w h → (K w.params).In h → h.Ns mainGlobals mg → mg d.name = some (.ref fa) →
      ∃ fd : FuncData, (∀ (s : Shared) (us : List Value), us.length = ps.length → BindsTo s fd ⟨us, []⟩ (ps.zip us)) ∧
        ∀ base : Heap, (K w.params).In base → base.Ns mainGlobals mg → FnOk r.prog w (K w.params) mg base CX k fa fd ps (sp (K w.params)))
    (hsp : ∀ (K : PySem.W.Frag) (H : Hp) (xs : List V) (a : Codec.denoteAll r.args), OnlyF H → Codec.withinAll r.args a = true → Codec.app r.args r.asked a = true → DwAll K H xs (Codec.encAll r.args a) →
      sp K xs H (fun v H' => Dw K H' v (r.ret.enc (Codec.app r.args r.f a))) fun _ _ _ => False)
    (hCX : ∀ (H : Hp) (s : Shared) (e : Value) (s' : Shared), CX [] H s (fun _ _ _ => False) e s' → False) :
    PySem.W.WalkOS q loose XP YP r d [] (fun f vs => PySem.call f vs) :=
  walk_spec (K := K) (CX := fun _ => CX) (sp := fun w => sp (K w.params)) hwell hdf hlen hr hY F (fun w H xs a h1 h2 h3 h4 => hsp (K w.params) H xs a h1 h2 h3 h4) fun _ H s e s' => hCX H s e s'
end L2
end


set_option Elab.async false
set_option maxRecDepth 100000
set_option maxHeartbeats 2000000
namespace Fs
open PySem PySem.Spec PyProof.Rows L2
theorem same_upd {H : Hp} {D : Addr} {o : HO} (h : H D = none) : Same H (upd H D o) := fun b u e => by
  rw [upd_ne (ne_of_none e h)]
  exact e
theorem take_snoc {α : Type} {l : List α} {i : Nat} {x : α} (h : l[i]? = some x) : l.take (i + 1) = l.take i ++ [x] := by
  rw [List.take_add_one, h]
  rfl
theorem wipe_one (σ : L2.St) (n : Nat) (x : V) : wipe ((wipe σ [n]).set n (some x)) [n] = wipe σ [n] := by
  show ((σ.set n none).set n (some x)).set n none = σ.set n none
  rw [List.set_set, List.set_set]
/-- [f(x) for x in xs if p(x)], the test and the element leave the heap -/
theorem lc_pure {K : PySem.W.Frag} {a D : Addr} {xs : List V} {tt : TT} {te : TE} {σ : L2.St} {H1 : Hp} {Qd : Hp → Prop} {n : Nat} (p : V → Bool) (f : V → V) (hD : H1 D = none) (hS : SqL K H1 a xs) (hlen : xs.length ≤ 1000000)
    (ht : ∀ x, x ∈ xs → ∀ (H : Hp) (Q : Bool → Hp → Prop), Same H1 H → Q (p x) H → tt ((wipe σ [n]).set n (some x)) H Q)
    (he : ∀ x, x ∈ xs → p x = true → ∀ (H : Hp) (Q : VK), Same H1 H → Q (f x) H → te ((wipe σ [n]).set n (some x)) H Q)
    (hd : Qd (upd H1 D (.lst ((xs.filter p).map f)))) :
    ∃ W : Nat → Nat → Hp → Prop, (∃ m, W 0 m (upd H1 D (.lst []))) ∧ ∀ i m H, W i m H →
      ((Itl K a).stop i H ∧ Qd H) ∨ ((Itl K a).go i H ∧ ∃ Nx : Hp → Prop, (∀ H', Nx H' → ∃ m', m' < m ∧ W (i + 1) m' H') ∧ ∀ x H', (Itl K a).yld i H x H' → gName n x (wipe σ [n]) H' fun σ2 H2 => wipe σ2 [n] = wipe σ [n] ∧ tt σ2 H2 fun b H3 =>
        if b = true then te σ2 H3 fun y H4 => ∃ acc, H4 D = some (.lst acc) ∧ acc.length < sizeLine ∧ Nx (upd H4 D (.lst (acc ++ [y]))) else Nx H3) := by
  refine lc_list (K := K) (a := a) (xs := xs) (fun i H => H = upd H1 D (.lst (((xs.take i).filter p).map f))) rfl (fun i H _ e => ?_) (fun i x H hx e => ?_) (fun H e => ?_)
  · rw [e]
    exact (same_upd hD).seq hS
  · have hm : x ∈ xs := List.mem_of_getElem? hx
    refine ⟨wipe_one σ n x, ht x hm H _ (by rw [e]; exact same_upd hD) ?_⟩
    cases hp : p x with
    | true =>
      refine iteT (he x hm hp H _ (by rw [e]; exact same_upd hD) ⟨_, by rw [e]; exact upd_same, ?_, ?_⟩)
      · rw [List.length_map]
        have h1 := List.length_filter_le p (xs.take i)
        have h2 : (xs.take i).length ≤ xs.length := by rw [List.length_take]; exact Nat.min_le_right _ _
        rw [sizeLine_eq]
        omega
      · rw [e, upd_upd, take_snoc hx, List.filter_append, List.map_append, List.filter_cons, hp, if_pos rfl]
        rfl
    | false =>
      refine iteF ?_
      rw [e, take_snoc hx, List.filter_append, List.filter_cons, hp]
      simp
  · rw [e, List.take_length]
    exact hd
/-- without a test -/
theorem lc_map {K : PySem.W.Frag} {a D : Addr} {xs : List V} {te : TE} {σ : L2.St} {H1 : Hp} {Qd : Hp → Prop} {n : Nat} (f : V → V) (hD : H1 D = none) (hS : SqL K H1 a xs) (hlen : xs.length ≤ 1000000)
    (he : ∀ x, x ∈ xs → ∀ (H : Hp) (Q : VK), Same H1 H → Q (f x) H → te ((wipe σ [n]).set n (some x)) H Q)
    (hd : Qd (upd H1 D (.lst (xs.map f)))) :
    ∃ W : Nat → Nat → Hp → Prop, (∃ m, W 0 m (upd H1 D (.lst []))) ∧ ∀ i m H, W i m H →
      ((Itl K a).stop i H ∧ Qd H) ∨ ((Itl K a).go i H ∧ ∃ Nx : Hp → Prop, (∀ H', Nx H' → ∃ m', m' < m ∧ W (i + 1) m' H') ∧ ∀ x H', (Itl K a).yld i H x H' → gName n x (wipe σ [n]) H' fun σ2 H2 => wipe σ2 [n] = wipe σ [n] ∧ tYes σ2 H2 fun b H3 =>
        if b = true then te σ2 H3 fun y H4 => ∃ acc, H4 D = some (.lst acc) ∧ acc.length < sizeLine ∧ Nx (upd H4 D (.lst (acc ++ [y]))) else Nx H3) :=
  lc_pure (fun _ => true) f hD hS hlen (fun _ _ _ _ _ q => q) (fun x hx _ => he x hx) (by rw [List.filter_eq_self.mpr (fun _ _ => rfl)]; exact hd)
/-- [f(k) for k in range(lo, lo + m) if p(k)] -/
theorem lc_rpure {D : Addr} {lo : Int} {m : Nat} {tt : TT} {te : TE} {σ : L2.St} {H1 : Hp} {Qd : Hp → Prop} {n : Nat} (p : Nat → Bool) (f : Nat → V) (hD : H1 D = none) (hlen : m ≤ 1000000)
    (ht : ∀ x, x < m → ∀ (H : Hp) (Q : Bool → Hp → Prop), Same H1 H → Q (p x) H → tt ((wipe σ [n]).set n (some (.int (lo + x)))) H Q)
    (he : ∀ x, x < m → p x = true → ∀ (H : Hp) (Q : VK), Same H1 H → Q (f x) H → te ((wipe σ [n]).set n (some (.int (lo + x)))) H Q)
    (hd : Qd (upd H1 D (.lst (((List.range m).filter p).map f)))) :
    ∃ W : Nat → Nat → Hp → Prop, (∃ m, W 0 m (upd H1 D (.lst []))) ∧ ∀ i m' H, W i m' H →
      ((Itr lo m).stop i H ∧ Qd H) ∨ ((Itr lo m).go i H ∧ ∃ Nx : Hp → Prop, (∀ H', Nx H' → ∃ m'', m'' < m' ∧ W (i + 1) m'' H') ∧ ∀ x H', (Itr lo m).yld i H x H' → gName n x (wipe σ [n]) H' fun σ2 H2 => wipe σ2 [n] = wipe σ [n] ∧ tt σ2 H2 fun b H3 =>
        if b = true then te σ2 H3 fun y H4 => ∃ acc, H4 D = some (.lst acc) ∧ acc.length < sizeLine ∧ Nx (upd H4 D (.lst (acc ++ [y]))) else Nx H3) := by
  refine lc_range (fun i H => H = upd H1 D (.lst (((List.range i).filter p).map f))) rfl (fun i H hi e => ?_) (fun H e => ?_)
  · refine ⟨wipe_one σ n _, ht i hi H _ (by rw [e]; exact same_upd hD) ?_⟩
    cases hp : p i with
    | true =>
      refine iteT (he i hi hp H _ (by rw [e]; exact same_upd hD) ⟨_, by rw [e]; exact upd_same, ?_, ?_⟩)
      · rw [List.length_map]
        have h1 := List.length_filter_le p (List.range i)
        rw [List.length_range] at h1
        rw [sizeLine_eq]
        omega
      · rw [e, upd_upd, List.range_succ, List.filter_append, List.map_append, List.filter_cons, hp, if_pos rfl]
        rfl
    | false =>
      refine iteF ?_
      rw [e, List.range_succ, List.filter_append, List.filter_cons, hp]
      simp
  · rw [e]
    exact hd
theorem lc_rmap {D : Addr} {lo : Int} {m : Nat} {te : TE} {σ : L2.St} {H1 : Hp} {Qd : Hp → Prop} {n : Nat} (f : Nat → V) (hD : H1 D = none) (hlen : m ≤ 1000000)
    (he : ∀ x, x < m → ∀ (H : Hp) (Q : VK), Same H1 H → Q (f x) H → te ((wipe σ [n]).set n (some (.int (lo + x)))) H Q)
    (hd : Qd (upd H1 D (.lst ((List.range m).map f)))) :
    ∃ W : Nat → Nat → Hp → Prop, (∃ m, W 0 m (upd H1 D (.lst []))) ∧ ∀ i m' H, W i m' H →
      ((Itr lo m).stop i H ∧ Qd H) ∨ ((Itr lo m).go i H ∧ ∃ Nx : Hp → Prop, (∀ H', Nx H' → ∃ m'', m'' < m' ∧ W (i + 1) m'' H') ∧ ∀ x H', (Itr lo m).yld i H x H' → gName n x (wipe σ [n]) H' fun σ2 H2 => wipe σ2 [n] = wipe σ [n] ∧ tYes σ2 H2 fun b H3 =>
        if b = true then te σ2 H3 fun y H4 => ∃ acc, H4 D = some (.lst acc) ∧ acc.length < sizeLine ∧ Nx (upd H4 D (.lst (acc ++ [y]))) else Nx H3) :=
  lc_rpure (fun _ => true) f hD hlen (fun _ _ _ _ _ q => q) (fun x hx _ => he x hx) (by rw [List.filter_eq_self.mpr (fun _ _ => rfl)]; exact hd)
/-! the same rules with the written part named (within a comprehension's block) -/
section
variable {X : Cx} {K : PySem.W.Frag}
theorem ix_listK (h : X.K = K) : IxR X (rIxL K) := h ▸ ix_list
theorem ix_tupK (h : X.K = K) : IxR X (rIxT K) := h ▸ ix_tup
theorem call_len_seqK (h : X.K = K) : CallR X (.builtin "len") (fun xs H Q => ∃ p ys, xs = [.ref p] ∧ (SqL K H p ys ∨ SqT K H p ys) ∧ Q (.int ys.length) H) := h ▸ call_len_seq
theorem op_in_seqK (h : X.K = K) : OpR X (compareOp .In) (rIn K false) := h ▸ op_in_seq
theorem op_notIn_seqK (h : X.K = K) : OpR X (compareOp .NotIn) (rIn K true) := h ▸ op_notIn_seq
theorem pe_fldK {e : Expr} {f : Str} {pos : Pos} {ta : TE} (h : X.K = K) (he : PE X e ta) (hb : attributeBase e f X.env (eval e X.env) = eval e X.env) : PE X (.Attribute e f pos) (tFld K ta f) := h ▸ pe_fld he hb
theorem pi_listK {tg l : Expr} {tl : TE} (h : X.K = K) (hl : PE X l tl) : PI X tg l (iList K tl) := h ▸ pi_list hl
theorem sl_listK (h : X.K = K) : SlR X (rSlL K) := h ▸ sl_list
end
end Fs

set_option Elab.async false
set_option maxRecDepth 100000
set_option maxHeartbeats 2000000
namespace Fs
open PySem PySem.Spec PyProof.Rows L2
/-- the items of xs[lo:hi:st] -/
def pickV {α : Type} (xs : List α) (lo hi : Option Int) (st : Int) : List α :=
  (sliceRange (sliceBounds lo hi (some st) xs.length).1 (sliceBounds lo hi (some st) xs.length).2.1 (sliceBounds lo hi (some st) xs.length).2.2).filterMap (xs[·]?)
theorem Vals_pick {xs : List V} {us : List Value} (r : Vals xs us) : ∀ (is : List Nat), Vals (is.filterMap (xs[·]?)) (is.filterMap (us[·]?))
  | [] => .nil
  | i :: is => by
    rw [List.filterMap_cons, List.filterMap_cons]
    cases e : xs[i]? with
    | none =>
      rw [r.none_of e]
      exact Vals_pick r is
    | some x =>
      obtain ⟨u, e2, r2⟩ := r.get e
      rw [e2]
      exact .cons r2 (Vals_pick r is)
theorem slicePick_pick (its : List Value) (lo hi : Option Int) (st : Int) : slicePick its.toArray lo hi (some st) = (pickV its lo hi st).toArray := by
  unfold slicePick pickV
  simp
theorem pickV_le (xs : List V) (its : List Value) (r : Vals xs its) (lo hi : Option Int) (st : Int) : (pickV xs lo hi st).length ≤ xs.length := by
  have h := slicePick_size_le its.toArray lo hi (some st)
  rw [slicePick_pick, List.size_toArray, List.size_toArray] at h
  have e : (pickV xs lo hi st).length = (pickV its lo hi st).length := by
    unfold pickV
    rw [r.length]
    exact (Vals_pick r _).length
  rw [e, r.length]
  exact h
def tSl3 (K : PySem.W.Frag) (te : TE) (tl th : TO) (ts : TE) : TE := fun σ H Q => te σ H fun x H1 => tl σ H1 fun l H2 => th σ H2 fun u H3 => ts σ H3 fun y H4 => ∃ a xs st, x = .ref a ∧ y = .int st ∧ st ≠ 0 ∧ SqL K H4 a xs ∧
  ∀ p, H4 p = none → Q (.ref p) (upd H4 p (.lst (pickV xs l u st)))
section
variable {X : Cx} {e f : Expr} {te ts : TE} {lo hi : Option Expr} {tl th : TO} {pos p2 : Pos}
theorem pe_slice3 (he : PE X e te) (hl : PO X lo tl) (hu : PO X hi th) (hst : PE X f ts) : PE X (.Subscript e (.Slice lo hi (some f) p2) pos) (tSl3 X.K te tl th ts) := by
  intro pins s σ H Q I h
  refine Subscript_ (thn (he pins s σ H _ I h) fun v s1 ⟨x, H1, I1, r1, q1⟩ => ?_)
  refine wpAny_Slice (thn (hl pins s1 σ H1 _ I1 q1) fun vl s2 ⟨l, H2, I2, pl, q2⟩ => thn (hu pins s2 σ H2 _ I2 q2) fun vu s3 ⟨u, H3, I3, pu, q3⟩ => ?_)
  rw [evalPart_some]
  refine thn (hst pins s3 σ H3 _ I3 q3) fun vy s4 ⟨y, H4, I4, r4, q4⟩ => ?_
  obtain ⟨a, xs, st, rfl, rfl, hn, hx, q⟩ := q4
  cases r1
  obtain ⟨t, rfl⟩ := r4
  have I5 : Inv X pins σ H4 { s4 with heap := s4.heap.push { cls := .type "slice", data := .fields #[vl, vu, .int st t] } } := I4.kept (t' := s4.toks) fun b ob q => Heap.get?_push_of_some _ q
  obtain ⟨its, r, ht, hz⟩ := I5.list hx
  have hlen := r.length
  show wpAny (model X.prog X.w) X.A (subscriptTail e (.Slice lo hi (some f) p2) (.ref a) (.ref s4.heap.objs.size)) (EP X pins σ Q) X.xe { s4 with heap := s4.heap.push { cls := .type "slice", data := .fields #[vl, vu, .int st t] } }
  refine tail_any (ops := [.ref a, .ref s4.heap.objs.size]) ht.isList.typeIs slot_list_getitem.lookup ?_ (by with_unfolding_all rfl)
  refine wpAny_getItem_list_slice (st := some st) ht.isList (Heap.IsSliceOf.new ..) pl pu (.int st t) (by intro z; exact hn (Option.some.inj z)) ?_ (by rw [List.size_toArray] <;> omega)
  rw [slicePick_pick]
  refine ⟨.ref (s4.heap.push { cls := .type "slice", data := .fields #[vl, vu, .int st t] }).objs.size, _, I5.laid (t' := s4.toks) (o := .lst (pickV xs l u st)) (fun b ob q => Heap.get?_push_of_some _ q) (Nat.le_refl _) ?_, rfl, q _ (I5.hok.fresh (Nat.le_refl _))⟩
  refine ⟨Nat.le_trans (pickV_le xs its r l u st) hz, pickV its l u st, 0, ?_, Heap.get?_push_size _ rfl⟩
  unfold pickV
  rw [hlen]
  exact Vals_pick r _
end
/-! [0::2], [1::2] -/
def evens {α : Type} : List α → List α
  | a :: _ :: l => a :: evens l
  | [a] => [a]
  | [] => []
def odds {α : Type} : List α → List α
  | _ :: b :: l => b :: odds l
  | _ => []
theorem range_two : ∀ (α : Type) (l : List α) (d : Nat), (List.range ((l.length + 1) / 2)).filterMap (fun k => l[2 * k]?) = evens l ∧ (List.range (l.length / 2)).filterMap (fun k => l[2 * k + 1]?) = odds l
  | _, [], _ => ⟨by simp [evens], by simp [odds]⟩
  | _, [a], _ => ⟨by simp [evens, List.range_succ], by simp [odds]⟩
  | α, a :: b :: l, d => by
    obtain ⟨h1, h2⟩ := range_two α l d
    constructor
    · have e : ((a :: b :: l).length + 1) / 2 = (l.length + 1) / 2 + 1 := by simp only [List.length_cons]; omega
      rw [e, List.range_succ_eq_map, List.filterMap_cons, List.filterMap_map]
      show a :: _ = a :: evens l
      rw [← h1]
      rfl
    · have e : (a :: b :: l).length / 2 = l.length / 2 + 1 := by simp only [List.length_cons]; omega
      rw [e, List.range_succ_eq_map, List.filterMap_cons, List.filterMap_map]
      show b :: _ = b :: odds l
      rw [← h2]
      rfl
theorem pickV_even {α : Type} (l : List α) : pickV l (some 0) none 2 = evens l := by
  have e : sliceBounds (some 0) none (some 2) l.length = (0, (l.length : Int), 2) := by
    simp only [sliceBounds, Option.getD_some]
    refine Prod.ext ?_ rfl
    show max 0 (min (if (0 : Int) < 0 then 0 + (l.length : Int) else 0) (l.length : Int)) = 0
    rw [if_neg (by decide)]
    omega
  unfold pickV sliceRange
  rw [e]
  show ((List.range (if (2 : Int) > 0 then (if (0 : Int) < l.length then ((l.length : Int) - 0 + 2 - 1) / 2 else 0) else _).toNat).map fun (k : Nat) => ((0 : Int) + 2 * (k : Int)).toNat).filterMap (l[·]?) = evens l
  rw [if_pos (by decide), List.filterMap_map, ← (range_two α l 0).1]
  have e2 : (if (0 : Int) < l.length then ((l.length : Int) - 0 + 2 - 1) / 2 else 0).toNat = (l.length + 1) / 2 := by
    split <;> omega
  rw [e2]
  refine congrArg (fun g => List.filterMap g _) (funext fun k => ?_)
  show l[((0 : Int) + 2 * (k : Int)).toNat]? = l[2 * k]?
  have e3 : ((0 : Int) + 2 * (k : Int)).toNat = 2 * k := by omega
  rw [e3]
theorem pickV_odd {α : Type} (l : List α) : pickV l (some 1) none 2 = odds l := by
  have e : sliceBounds (some 1) none (some 2) l.length = (((min 1 l.length : Nat) : Int), (l.length : Int), 2) := by
    simp only [sliceBounds, Option.getD_some]
    refine Prod.ext ?_ rfl
    show max 0 (min (if (1 : Int) < 0 then 1 + (l.length : Int) else 1) (l.length : Int)) = ((min 1 l.length : Nat) : Int)
    rw [if_neg (by decide)]
    omega
  unfold pickV sliceRange
  rw [e]
  show ((List.range (if (2 : Int) > 0 then (if ((min 1 l.length : Nat) : Int) < l.length then ((l.length : Int) - ((min 1 l.length : Nat) : Int) + 2 - 1) / 2 else 0) else _).toNat).map fun (k : Nat) => (((min 1 l.length : Nat) : Int) + 2 * (k : Int)).toNat).filterMap (l[·]?) = odds l
  rw [if_pos (by decide), List.filterMap_map, ← (range_two α l 0).2]
  have e2 : (if ((min 1 l.length : Nat) : Int) < l.length then ((l.length : Int) - ((min 1 l.length : Nat) : Int) + 2 - 1) / 2 else 0).toNat = l.length / 2 := by
    split <;> omega
  rw [e2]
  by_cases h : l.length / 2 = 0
  · rw [h]
    rfl
  · refine congrArg (fun g => List.filterMap g _) (funext fun k => ?_)
    show l[(((min 1 l.length : Nat) : Int) + 2 * (k : Int)).toNat]? = l[2 * k + 1]?
    have e3 : (((min 1 l.length : Nat) : Int) + 2 * (k : Int)).toNat = 2 * k + 1 := by omega
    rw [e3]
theorem evens_map {α β : Type} (f : α → β) : ∀ l : List α, evens (l.map f) = (evens l).map f
  | [] => rfl
  | [_] => rfl
  | a :: b :: l => by
    show f a :: evens (l.map f) = f a :: (evens l).map f
    rw [evens_map f l]
theorem odds_map {α β : Type} (f : α → β) : ∀ l : List α, odds (l.map f) = (odds l).map f
  | [] => rfl
  | [_] => rfl
  | a :: b :: l => by
    show f b :: odds (l.map f) = f b :: (odds l).map f
    rw [odds_map f l]
end Fs

set_option Elab.async false
set_option maxRecDepth 100000
set_option maxHeartbeats 2000000
namespace Fs
open PySem PySem.Spec PyProof.Rows L2
/-! an own error (a class over ValueError), raised by a def, caught by its caller -/
def vErr : List Value := [.type "ValueError", .type "Exception", .type "BaseException", .type "object"]
/-- the class of an own error, in a heap -/
def ErrAt (C : Addr) (h : Heap) : Prop := ∃ bm N nm q bs hdct sn sub ab col dd k0 k1 k2 k3 k5 mN, h.get? C = some (excClassObj nm q C N bs bm hdct sn sub ab col dd k0 k1 k2 k3 k5 "ValueError.__new__") ∧ h.Ns N mN ∧ mN "__init__" = none ∧ OwnTail h vErr bm
theorem err_of {K : PySem.W.Frag} {h : Heap} {C : Addr} (X : K.In h) (q : PySem.W.excIn K C vErr "ValueError.__new__" = true) : ErrAt C h := by
  unfold PySem.W.excIn at q
  split at q
  · rename_i d0 cl slots hlk
    split at q
    · rename_i C0 tl s0 s1 s2 s3 nid s5 hmro hslots
      rw [Bool.and_eq_true, Bool.and_eq_true, Bool.and_eq_true, Bool.and_eq_true, Bool.and_eq_true] at q
      obtain ⟨⟨⟨⟨⟨q1, q2⟩, q3⟩, q4⟩, q5⟩, q6⟩ := q
      obtain rfl := beq_iff_eq.mp q1
      obtain rfl := beq_iff_eq.mp q2
      obtain ⟨c1, c2, c3, c4, c5, c6, c7, c8, c9, c10, c11⟩ := cl
      have e1 : c3 = .ref C0 :: tl := hmro
      have e2 : c11 = false := by
        have : (!c11) = true := q3
        simpa using this
      have e3 : slots = #[s0, s1, s2, s3, some (.builtin "ValueError.__new__"), s5] := by
        cases slots with
        | mk l => exact congrArg Array.mk hslots
      subst e1
      subst e2
      subst e3
      refine ⟨tl, c4, c1, c5, c2, c6, c7, c8, c9, c10, d0, s0, s1, s2, s3, s5, h.nsMap c4, X _ _ hlk, ?_, ?_, ?_⟩
      · exact .of_isNs (PySem.W.isNs_of_in X q5)
      · exact PySem.W.nsMap_none_of_in X q5 (beq_iff_eq.mp q6)
      · exact PySem.W.tail_of_in X q4
    · cases q
  · cases q
theorem ErrAt.keeps {C : Addr} {h h' : Heap} (e : ErrAt C h) (k : ∀ b o, h.get? b = some o → h'.get? b = some o) : ErrAt C h' := by
  obtain ⟨bm, N, nm, q, bs, hdct, sn, sub, ab, col, dd, k0, k1, k2, k3, k5, mN, g1, g2, g3, g4⟩ := e
  exact ⟨bm, N, nm, q, bs, hdct, sn, sub, ab, col, dd, k0, k1, k2, k3, k5, mN, k _ _ g1, g2.keeps k, g3, g4.keeps k⟩
/-- behind the call the untracked stand in B -/
structure UnB (fs : List Addr) (H H' : Hp) (h B : Heap) : Prop where
  keep : ∀ b o, h.get? b = some o → H b = none → b ∉ fs → B.get? b = some o
  free : ∀ b o, h.get? b = some o → H b = none → H' b = none
  there : ∀ b o, h.get? b = some o → b ∉ fs → ∃ o', B.get? b = some o'
  tups : ∀ b xs, H b = some (.tup xs) → H' b = some (.tup xs)
  frzs : ∀ b o u, H b = some (.frz o u) → H' b = some (.frz o u)
  tbls : ∀ b ps, H b = some (.tbl ps) → ∃ more, H' b = some (.tbl (ps ++ more))
/-- how the error lies behind the call -/
def CXe (C : Addr) (P : Program) (w : World) : CXT := fun outer H s E e s' => ∃ (ea : Addr) (B : Heap) (a0 : Value) (H' : Hp), e = .ref ea ∧ s'.os = s.os ∧ AllBare s'.gens ∧ Heap.FlyingW B outer ea (.ref C) a0 s'.heap ∧
  HOk P w H' B ∧ UnB (frs outer) H H' s.heap B ∧ (∀ b, b ∈ frs outer → ∀ o, s.heap.get? b = some o → ∃ sl, s'.heap.get? b = some { o with slots := sl }) ∧ E (.ref C) none H'
section
variable {P : Program} {w : World} {K : PySem.W.Frag} {mg : Str → Option Value} {base : Heap}
theorem Fun.okX {CX : CXT} {x qual : Str} {st : Stmt} {f : Addr} {fd : FuncData} {N ps : List Str} {k : Nat} {sp : Sp} (F : Fun K x qual st f fd) (S : FnScope N ps (defScope st)) (len : ∀ vs H Q E, sp vs H Q E → vs.length = ps.length)
    (hb : ∀ (cdv : Value) (A : Around) (outer : List Env) (s : Shared) (H : Hp) (vs : List V) (Q : VK) (E : XK), Room k (A.deeper (envOfC qual (defScope st) s.heap.objs.size f cdv)) → sp vs H Q E →
      ∃ t, PSs (cxOf CX P w K mg base N qual (defScope st) f cdv A outer s H E) (defBody st) t ∧ t { nx := fun _ H' => Q .non H', rt := Q } (start N vs) H) : FnOk P w K mg base CX (k + 1) f fd ps sp := by
  obtain ⟨oc, od, kV, doc, pm, an, cdv, ct, osl, rfl, lk, hcd⟩ := F.ex
  exact fn_of lk hcd S len fun A outer s H vs Q E hr hsp => hb cdv A outer s H vs Q E hr hsp
/-- raise C(e) -/
def tRaise (E : XK) (C : Addr) (ta : TA) : TS := fun _ σ H => ta σ H fun vs H1 => vs.length ≤ sizeLine ∧ E (.ref C) none H1
theorem ps_raise {C : Addr} {N : List Str} {qual : Str} {scope : Scope} {f : Addr} {cd : Value} {A : Around} {outer : List Env} {s0 : Shared} {H0 : Hp} {E : XK} {x : Str} {np cpos pos : Pos} {e : Expr} {es : List Expr} {ta : TA}
    (ha : PA (cxOf (CXe C P w) P w K mg base N qual scope f cd A outer s0 H0 E) (e :: es) ta) (hg : Gl (cxOf (CXe C P w) P w K mg base N qual scope f cd A outer s0 H0 E) x) (hm : mg x = some (.ref C))
    (hx : PySem.W.excIn K C vErr "ValueError.__new__" = true) (hd : (x == ("__debug__" : Str)) = false := by decide)
    (hst : starEach (e :: es) (envOfC qual scope s0.heap.objs.size f cd) = (false, eval e (envOfC qual scope s0.heap.objs.size f cd)) :: starEach es (envOfC qual scope s0.heap.objs.size f cd) := by rfl)
    (hpl : (backTo cpos (starEach es (envOfC qual scope s0.heap.objs.size f cd))).any (·.1) = false := by rfl) :
    PS (cxOf (CXe C P w) P w K mg base N qual scope f cd A outer s0 H0 E) (.Raise (some (.Call (.Name x np) (e :: es) [] cpos)) none pos) (tRaise E C ta) := by
  intro pins s σ H D I h
  obtain ⟨bm, Ns, nm, q, bs, hdct, sn, sub, ab, col, dd, k0, k1, k2, k3, k5, mN, c1, c2, c3, c4⟩ := err_of I.ok.mod.kin hx
  have hpl' : (backTo cpos (starEach (e :: es) (envOfC qual scope s0.heap.objs.size f cd))).any (·.1) = false := by
    rw [hst]
    show (false || (backTo cpos (starEach es (envOfC qual scope s0.heap.objs.size f cd))).any (·.1)) = false
    rw [hpl]
    rfl
  refine wpAny_Raise_call_subT (C := C) (nm := nm) (q := q) (N := Ns) (bs := bs) (hdct := hdct) (sn := sn) (sub := sub) (ab := ab) (col := col) (dd := dd) (k0 := k0) (k1 := k1) (k2 := k2) (k3 := k3) (k5 := k5) PySem.F.excBase_ValueError (mN := mN) (bm := bm) (c4.hasType PySem.F.excBase_ValueError.hasBase) (I.ok.hd rfl) hpl' c3 (ld_glob I hg hm ⟨rfl, ?_⟩ hd)
  have ha' := ha cpos pins s σ H _ I h
  change wpAny (model P w) _ (spliced (backTo cpos (starEach (e :: es) (envOfC qual scope s0.heap.objs.size f cd)))) _ _ s at ha'
  change wpAny (model P w) _ (evalArgs (.ref C) true (backTo cpos (starEach (e :: es) (envOfC qual scope s0.heap.objs.size f cd))) []) _ _ s
  rw [hst] at ha' ⊢
  refine Calls.evalArgs_plain (thn ha' fun us s2 ⟨vs, H1, I1, r, hl, q⟩ => ⟨rfl, by rw [← r.length]; exact hl, I1.bk _ _ c1, c2.keeps I1.bk, c4.keeps I1.bk, fun h' ea hmade => ?_⟩)
  -- the frame is left
  show wpAny (model P w) (A.deeper (envOfC qual scope s0.heap.objs.size f cd)) (leaving (envOfC qual scope s0.heap.objs.size f cd) (.ref ea)) (fun _ s'' => CXe C P w outer H0 s0 E (.ref ea) s'') (fun e' s'' => CXe C P w outer H0 s0 E e' s'') { s2 with heap := h' }
  have hst2 := I1.stack
  have hin : ∀ env ∈ (envOfC qual scope s0.heap.objs.size f cd :: outer), ∀ b, env.frame = some b → b ∈ frs (envOfC qual scope s0.heap.objs.size f cd :: outer) := fun env he b hb => List.mem_filterMap.mpr ⟨env, he, hb⟩
  have hfree : ∀ b, b ∈ frs (envOfC qual scope s0.heap.objs.size f cd :: outer) → H1 b = none := fun b hb => I1.stkFree b hb
  have hL : ∀ b o, s0.heap.get? b = some o → b ∉ frs outer → b ∉ frs (envOfC qual scope s0.heap.objs.size f cd :: outer) := fun b o e1 e2 e3 => by
    rcases List.mem_cons.mp (I1.stkSub b e3) with z | z
    · exact absurd (Heap.lt_size e1) (by rw [z]; exact Nat.lt_irrefl _)
    · exact e2 z
  refine wpAny_leaves_madeW (base := PySem.W.hideAll s2.heap (frs (envOfC qual scope s0.heap.objs.size f cd :: outer))) (h := s2.heap) I1.ok.frames rfl (fun b o q => PySem.W.of_hideAll _ q) (PySem.W.funFrames_hide hst2 hin) hmade (fun h2 t f1 f2 f3 f4 => ?_)
  refine ⟨ea, _, _, H1, rfl, I1.os, I1.bare, f1, fun b u eb => ?_, ⟨fun b o q1 q2 q3 => ?_, fun b o q1 q2 => ?_, fun b o q1 q3 => ?_, I1.base.tups, I1.base.frzs, I1.base.tbls⟩, fun b hb o q1 => ?_, q⟩
  · refine (I1.hok b u eb).stay (fun c v hc q => PySem.W.hideAll_get _ q fun hm => ?_) (fun _ q => q) fun _ _ q => q
    rcases hc with z | z
    · subst z
      rw [hfree _ hm] at eb
      cases eb
    · rw [hfree _ hm] at z
      cases z
  · exact PySem.W.hideAll_get _ (I1.base.keep b o q1 q2 q3 (fun z => by cases z)) (hL b o q1 q3)
  · exact I1.base.free b o q1 q2 (fun z => by cases z)
  · obtain ⟨o', e1⟩ := I1.base.there b o q1 (fun z => by cases z)
    exact ⟨o', PySem.W.hideAll_get _ e1 (hL b o q1 q3)⟩
  · obtain ⟨_, ob, e1, e2⟩ := I1.ok.funs.mem hb
    have e3 : s0.heap.get? b = some ob := e1
    rw [q1] at e3
    cases e3
    obtain ⟨sl, e4⟩ := I1.base.slot b o q1 (I1.ok.frf b hb) hb (fun z => by cases z)
    obtain ⟨sl', e5⟩ := f4 b _ (hmade.keeps _ _ e4) e2
    exact ⟨sl', e5⟩
/-- f"..{n}..", n an int -/
def tFs (tv : TE) : TE := fun σ H Q => tv σ H fun x H1 => ∃ i : Int, x = .int i ∧ i.natAbs < 2 ^ 64 ∧ ∀ o, Q (.str o) H1
theorem pe_fstr {X : Cx} {c1 c2 : Str} {v : Expr} {tv : TE} {j1 j2 p1 p2 p3 pos} (hv : PE X v tv) (h1 : c1.length ≤ 1000) (h2 : c2.length ≤ 1000)
    (he : evalEach [.Constant (.str c1) j1 p1, .FormattedValue v (-1) none p2, .Constant (.str c2) j2 p3] X.env = [eval (.Constant (.str c1) j1 p1) X.env, eval (.FormattedValue v (-1) none p2) X.env, eval (.Constant (.str c2) j2 p3) X.env] := by rfl) :
    PE X (.JoinedStr [.Constant (.str c1) j1 p1, .FormattedValue v (-1) none p2, .Constant (.str c2) j2 p3] pos) (tFs tv) := by
  intro pins s σ H Q I h
  refine wpAny_JoinedStr ?_
  rw [he]
  have e0 : ∀ x : Str, (Str.empty ++ x).length = x.length := fun x => by rw [strLen_append]; exact Nat.zero_add _
  refine Calls.Constant_str ⟨c1, _, rfl, by rw [e0, sizeLine_eq]; omega, ?_⟩
  refine wpAny_FormattedValue_plain (thn (hv pins _ σ H _ (I.tok _) h) fun u s1 ⟨x, H1, I1, rx, i, ex, hi, q⟩ => ?_)
  subst ex
  obtain ⟨t, rfl⟩ := (show ∃ t, u = Value.int i t from rx)
  have hlog : i.natAbs.log2 < 64 := by
    by_cases h0 : i.natAbs = 0
    · rw [h0]
      decide
    · exact (Nat.log2_lt h0).mpr hi
  have hlen := int_text_length_le (k := 64) (by decide) hlog
  have hlen' : (Str.ofString (toString i)).length ≤ 65 := by rw [PySem.ofString_length]; exact hlen
  refine wpAny_formatField_int (Nat.lt_trans hlog (by decide)) ⟨_, _, rfl, by rw [strLen_append, e0, sizeLine_eq]; omega, ?_⟩
  refine Calls.Constant_str ⟨c2, _, rfl, by rw [strLen_append, strLen_append, e0, sizeLine_eq]; omega, by rw [strLen_append, strLen_append, e0, sizeLine_eq]; omega, ?_⟩
  exact ⟨.str _, H1, (((I1.tok _).tok _).tok _), ⟨_, rfl⟩, q _⟩
end
/-! the caller -/
/-- behind the error: the caller's state -/
theorem land {C : Addr} {X : Cx} {pins : List (Addr × Obj)} {σ : L2.St} {H H' : Hp} {s s' s5 : Shared} {B : Heap} (I : Inv X pins σ H s) (ok : HOk X.prog X.w H' B) (u : UnB (frs X.stack) H H' s.heap B)
    (sl : ∀ b, b ∈ frs X.stack → ∀ o, s.heap.get? b = some o → ∃ sl, s'.heap.get? b = some { o with slots := sl }) (k : B.StaysIn s5.heap) (up : s'.heap.UpToSlots s5.heap) (os : s5.os = s.os) (g : AllBare s5.gens) : Inv X pins σ H' s5 := by
  have fr : ∀ b, b ∈ frs X.stack → ∀ o, s.heap.get? b = some o → ∃ sl, s5.heap.get? b = some { o with slots := sl } := fun b hb o e => by
    obtain ⟨_, ob, e1, e2⟩ := I.stack.mem hb
    rw [e] at e1
    cases e1
    obtain ⟨s1, e3⟩ := sl b hb o e
    obtain ⟨s2, e4⟩ := up b _ e3 e2
    exact ⟨s2, e4⟩
  refine I.call' os (ch := []) ⟨fun b o q n hb _ => k _ _ (u.keep b o q n hb), fun b o q n hb _ => fr b hb o q, fun b o q n _ => u.free b o q n, fun b o q _ => ?_, u.tups, u.frzs, u.tbls⟩ (ok.kept k) g (fun b z => by cases z)
  by_cases hb : b ∈ frs X.stack
  · obtain ⟨s1, e1⟩ := fr b hb o q
    exact ⟨_, e1⟩
  · obtain ⟨o', e1⟩ := u.there b o q hb
    exact ⟨o', k _ _ e1⟩
/-- what the body of a try wants of an error -/
def trE (X : Cx) (C : Addr) (E : XK) (e : Value) (s' : Shared) : Prop := ∃ (pins : List (Addr × Obj)) (σ : L2.St) (H : Hp) (s : Shared), Inv X pins σ H s ∧ CXe C X.prog X.w X.stack H s E e s'
abbrev trX (X : Cx) (pn : List (Addr × Obj)) (C : Addr) (E : XK) : Cx := { X with pn := pn, xe := trE { X with pn := pn } C E }
theorem pass_tr {X : Cx} {pn : List (Addr × Obj)} {C : Addr} {E : XK} : Passes (CXe C X.prog X.w) (trX X pn C E) E := fun pins σ H s e s' I h =>
  ⟨pins, σ, H, s, I.unwish (X := { X with pn := pn }), h⟩
/-- the context of an except suite -/
abbrev hdX (X : Cx) (e : Addr) : Cx := { X with A := X.A.mark (some (.ref e)), calm := false }
theorem hd_in {X : Cx} {e : Addr} {pins : List (Addr × Obj)} {σ : L2.St} {H : Hp} {s : Shared} (I : Inv X pins σ H s) : Inv (hdX X e) pins σ H s :=
  ⟨⟨I.ok.mod, I.ok.kind, I.ok.glob, I.ok.blt, I.ok.above, I.ok.inj, I.ok.has, I.ok.cab, (fun z => by cases z), I.ok.frames, I.ok.stk, I.ok.exf, I.ok.bs, I.ok.bsz, I.ok.noex, I.ok.exfs, I.ok.funs, I.ok.frf⟩, I.os, I.bare, I.base, I.loc, I.cell, I.free, I.freeC, I.pin, I.hok, I.len⟩
theorem hd_out {X : Cx} {e : Addr} {pins : List (Addr × Obj)} {σ : L2.St} {H : Hp} {s : Shared} (ok : X.Ok) (I : Inv (hdX X e) pins σ H s) : Inv X pins σ H s :=
  ⟨ok, I.os, I.bare, I.base, I.loc, I.cell, I.free, I.freeC, I.pin, I.hok, I.len⟩
theorem pn_in {X : Cx} {pins : List (Addr × Obj)} {σ : L2.St} {H : Hp} {s : Shared} (I : Inv X pins σ H s) : Inv { X with pn := X.pn ++ pins } [] σ H s :=
  ⟨⟨I.ok.mod, I.ok.kind, I.ok.glob, I.ok.blt, I.ok.above, I.ok.inj, I.ok.has, I.ok.cab, I.ok.hd, I.ok.frames, I.ok.stk, I.ok.exf, I.ok.bs, I.ok.bsz, I.ok.noex, I.ok.exfs, I.ok.funs, I.ok.frf⟩, I.os, I.bare, I.base, I.loc, I.cell, I.free, I.freeC, (fun p hp => I.pin p (by rw [List.append_nil] at hp; exact hp)), I.hok, I.len⟩
theorem pn_out {X : Cx} {pins pins' : List (Addr × Obj)} {σ : L2.St} {H : Hp} {s : Shared} (ok : X.Ok) (I : Inv { X with pn := X.pn ++ pins } pins' σ H s) : Inv X pins σ H s :=
  ⟨ok, I.os, I.bare, I.base, I.loc, I.cell, I.free, I.freeC, (fun p hp => I.pin p (List.mem_append_left _ hp)), I.hok, I.len⟩
def tTry (tb : XK → TS) (ts : TS) : TS := fun D σ H => tb (fun _ _ H' => ∀ σ', ts D σ' H') D σ H
theorem ps_try {X : Cx} {C : Addr} {body suite : List Stmt} {s₀ : Stmt} {x : Str} {np hpos pos : Pos} {tb : XK → TS} {ts : TS} (hb : ∀ (pn : List (Addr × Obj)) (E : XK), PSs (trX X pn C E) body (tb E)) (hs : ∀ e, PSs (hdX X e) (s₀ :: suite) ts)
    (hg : Gl X x) (hm : X.mg x = some (.ref C)) (hx : PySem.W.excIn X.K C vErr "ValueError.__new__" = true) (hk : X.stack = X.env :: X.outer) (hf : X.env.frame = some X.env.locals) (hp : ∀ e, PassesOwnAt (model X.prog X.w) (X.A.mark (some e)) X.A X.env X.xe)
    (hd : (x == ("__debug__" : Str)) = false := by decide) : PS X (.Try body [.ExceptHandler (some (.Name x np)) none (s₀ :: suite) hpos] [] [] pos) (tTry tb ts) := by
  intro pins s σ H D I h
  have Ip := pn_in I
  refine wpAny_Try_except (wpAny_mono (hb (X.pn ++ pins) _ [] s σ H D (Ip.wish (X := { X with pn := X.pn ++ pins }) (trE { X with pn := X.pn ++ pins } C fun _ _ H' => ∀ σ', ts D σ' H')) h) (fun fl s1 h1 => ?_) (fun ev s1 h1 => ?_))
  · have h2 : SP X pins D fl s1 := by
      cases fl with
      | next => obtain ⟨a, b, J, z⟩ := h1; exact ⟨a, b, pn_out I.ok (Inv.unwish (X := { X with pn := X.pn ++ pins }) J), z⟩
      | brk => obtain ⟨a, b, J, z⟩ := h1; exact ⟨a, b, pn_out I.ok (Inv.unwish (X := { X with pn := X.pn ++ pins }) J), z⟩
      | cont => obtain ⟨a, b, J, z⟩ := h1; exact ⟨a, b, pn_out I.ok (Inv.unwish (X := { X with pn := X.pn ++ pins }) J), z⟩
      | ret u => obtain ⟨v, a, b, J, rv, z⟩ := h1; exact ⟨v, a, b, pn_out I.ok (Inv.unwish (X := { X with pn := X.pn ++ pins }) J), rv, z⟩
    cases fl with
    | next => exact wpAny_pure h2
    | brk => exact h2
    | cont => exact h2
    | ret u => exact h2
  · obtain ⟨pins', σ', H1, s2, I2, ea, B, a0, H', rfl, os, bare, fl, ok, u, sl, q⟩ := h1
    have I2' : Inv X pins σ' H1 s2 := pn_out I.ok I2
    have fl' : Heap.FlyingW B (X.env :: X.outer) ea (.ref C) a0 s1.heap := by rw [← hk]; exact fl
    refine wpAny_looks_onW (by rw [← hk]; exact I.ok.frames) hf fl' fun hA held upA => ?_
    refine wpAny_landsW held fun hB flB upB => ?_
    have IB : Inv X pins σ' H' { s1 with heap := hB } := land (C := C) I2' ok u sl flB.1 (upA.trans upB) os bare
    obtain ⟨oe, he, hec⟩ := flB.there
    obtain ⟨bm, Ns, nm, qn, bs, hdct, sn, sub, ab, col, dd, k0, k1, k2, k3, k5, mN, c1, c2, c3, c4⟩ := err_of IB.kIn hx
    refine wpAny_handleBy_cons (codeAny_handlers_test (ld_glob (hd_in (e := ea) IB) hg hm ?_ hd)) (by intro z; cases z)
    refine wpAny_excMatches_sub_self c1 he hec (c4.hasType PySem.F.excBase_ValueError.hasBase) (codeAny_handlers_suite ?_)
    refine lands_againW flB fun hC' flC upC => ?_
    have IC : Inv X pins σ' H' { s1 with heap := hC' } := land (C := C) I2' ok u sl flC.1 ((upA.trans upB).trans upC) os bare
    refine wpAny_passesOwnAt (hp _) (wpAny_mono (hs ea pins _ σ' H' D (hd_in IC) (q σ')) (fun fl s3 h3 => ?_) fun _ _ z => z)
    cases fl with
    | next => obtain ⟨a, b, J, z⟩ := h3; exact ⟨a, b, hd_out I.ok J, z⟩
    | brk => obtain ⟨a, b, J, z⟩ := h3; exact ⟨a, b, hd_out I.ok J, z⟩
    | cont => obtain ⟨a, b, J, z⟩ := h3; exact ⟨a, b, hd_out I.ok J, z⟩
    | ret u => obtain ⟨v, a, b, J, rv, z⟩ := h3; exact ⟨v, a, b, hd_out I.ok J, rv, z⟩
end Fs

set_option Elab.async false
set_option maxRecDepth 100000
set_option maxHeartbeats 2000000
namespace Fs
open PySem PySem.Spec PyProof.Rows L2
/-- what of H' is new since H -/
def New (H H' : Hp) : Hp := fun b => match H b with
  | none => H' b
  | some _ => none
theorem new_eq {H H' : Hp} {b : Addr} (h : H b = none) : New H H' b = H' b := by unfold New; rw [h]
theorem new_old {H H' : Hp} {b : Addr} {o : HO} (h : H b = some o) : New H H' b = none := by unfold New; rw [h]
theorem new_some {H H' : Hp} {b : Addr} {o : HO} (h : New H H' b = some o) : H b = none ∧ H' b = some o := by
  cases e : H b with
  | none => rw [new_eq e] at h; exact ⟨rfl, h⟩
  | some u => rw [new_old e] at h; cases h
theorem new_sub {H H' : Hp} : Same (New H H') H' := fun _ _ h => (new_some h).2
/-- new since later is new since earlier -/
theorem new_mono {H0 H H' : Hp} (s : Same H0 H) : Same (New H H') (New H0 H') := fun b o h => by
  obtain ⟨h1, h2⟩ := new_some h
  rw [new_eq (s.free h1)]
  exact h2
theorem new_up {H H' H'' : Hp} (s : Same H' H'') : Same (New H H') (New H H'') := fun b o h => by
  obtain ⟨h1, h2⟩ := new_some h
  rw [new_eq h1]
  exact s _ _ h2
/-- φ holds of a part without D -/
def Off (D : Addr) (H : Hp) (φ : Hp → Prop) : Prop := ∃ G, G D = none ∧ Same G H ∧ φ G
theorem Off.upd {D : Addr} {H : Hp} {φ : Hp → Prop} {o : HO} (h : Off D H φ) : Off D (upd H D o) φ := by
  obtain ⟨G, h1, h2, h3⟩ := h
  refine ⟨G, h1, fun b u e => ?_, h3⟩
  rw [upd_ne (ne_of_none e h1)]
  exact h2 _ _ e
theorem Off.same {D : Addr} {H H' : Hp} {φ : Hp → Prop} (h : Off D H φ) (s : Same H H') : Off D H' φ := by
  obtain ⟨G, h1, h2, h3⟩ := h
  exact ⟨G, h1, h2.trans s, h3⟩
theorem Off.new {D : Addr} {H H' : Hp} {φ : Hp → Prop} {o : HO} (hD : H D = some o) (h : φ (New H H')) : Off D H' φ := ⟨_, new_old hD, new_sub, h⟩
theorem Off.of {D : Addr} {H : Hp} {φ : Hp → Prop} (hD : H D = none) (h : φ H) : Off D H φ := ⟨H, hD, Same.refl _, h⟩
/-! comprehensions whose elements are laid anew -/
def BInv (D : Addr) (H1 : Hp) (R : Nat → V → Hp → Prop) (i : Nat) (H : Hp) : Prop := ∃ ys : List V, H D = some (.lst ys) ∧ ys.length = i ∧ Same H1 H ∧
  ∀ k y, ys[k]? = some y → ∃ G : Hp, G D = none ∧ (∀ b o, H1 b = some o → G b = none) ∧ Same G H ∧ R k y G
theorem BInv.start {D : Addr} {H1 : Hp} {R : Nat → V → Hp → Prop} (hD : H1 D = none) : BInv D H1 R 0 (upd H1 D (.lst [])) := ⟨[], upd_same, rfl, same_upd hD, fun k y h => by simp at h⟩
theorem BInv.step {D : Addr} {H1 H H4 : Hp} {R : Nat → V → Hp → Prop} {i : Nat} {y : V} (hD : H1 D = none) (I : BInv D H1 R i H) (hi : i ≤ 1000000) (s : Same H H4) (r : R i y (New H H4)) :
    ∃ acc, H4 D = some (.lst acc) ∧ acc.length < sizeLine ∧ BInv D H1 R (i + 1) (upd H4 D (.lst (acc ++ [y]))) := by
  obtain ⟨ys, h1, h2, h3, h4⟩ := I
  refine ⟨ys, s _ _ h1, by rw [h2, sizeLine_eq]; omega, ys ++ [y], upd_same, by rw [List.length_append, h2]; rfl, fun b o e => ?_, fun k z hz => ?_⟩
  · rw [upd_ne (ne_of_none e hD)]
    exact s _ _ (h3 _ _ e)
  · by_cases hk : k < ys.length
    · rw [List.getElem?_append_left hk] at hz
      obtain ⟨G, g1, g2, g3, g4⟩ := h4 k z hz
      refine ⟨G, g1, g2, fun b o e => ?_, g4⟩
      rw [upd_ne (ne_of_none e g1)]
      exact s _ _ (g3 _ _ e)
    · have hk' : k = ys.length := by
        have := (List.getElem?_eq_some_iff.mp hz).1
        rw [List.length_append] at this
        simp at this
        omega
      subst hk'
      rw [List.getElem?_append_right (Nat.le_refl _)] at hz
      simp at hz
      subst hz
      rw [h2]
      refine ⟨New H H4, new_old h1, fun b o e => new_old (h3 _ _ e), fun b o e => ?_, r⟩
      rw [upd_ne (ne_of_none e (new_old h1))]
      exact new_sub _ _ e
theorem BInv.fin {D : Addr} {H1 H : Hp} {R : Nat → V → Hp → Prop} {i : Nat} (Rm : ∀ k y G H, R k y G → Same G H → R k y H) (I : BInv D H1 R i H) :
    ∃ ys : List V, H D = some (.lst ys) ∧ ys.length = i ∧ Same H1 H ∧ ∀ k y, ys[k]? = some y → R k y (New H1 H) := by
  obtain ⟨ys, h1, h2, h3, h4⟩ := I
  refine ⟨ys, h1, h2, h3, fun k y hy => ?_⟩
  obtain ⟨G, g1, g2, g3, g4⟩ := h4 k y hy
  refine Rm k y G _ g4 fun b o e => ?_
  have : H1 b = none := by
    cases q : H1 b with
    | none => rfl
    | some u => rw [g2 b u q] at e; cases e
  rw [new_eq this]
  exact g3 _ _ e
theorem lc_build {K : PySem.W.Frag} {a D : Addr} {xs : List V} {te : TE} {σ : L2.St} {H1 : Hp} {Qd : Hp → Prop} {vs : List Nat} {g : TG} (R : Nat → V → Hp → Prop) (Rm : ∀ k y G H, R k y G → Same G H → R k y H) (hD : H1 D = none) (hS : SqL K H1 a xs) (hlen : xs.length ≤ 1000000)
    (he : ∀ i x, xs[i]? = some x → ∀ (H : Hp) (Q : VK), Same H1 H → (∀ y H', Same H H' → R i y (New H H') → Q y H') → g x (wipe σ vs) H fun σ2 H2 => wipe σ2 vs = wipe σ vs ∧ te σ2 H2 Q)
    (hd : ∀ (ys : List V) (H' : Hp), Same H1 H' → ys.length = xs.length → H' D = some (.lst ys) → (∀ k y, ys[k]? = some y → R k y (New H1 H')) → Qd H') :
    ∃ W : Nat → Nat → Hp → Prop, (∃ m, W 0 m (upd H1 D (.lst []))) ∧ ∀ i m H, W i m H →
      ((Itl K a).stop i H ∧ Qd H) ∨ ((Itl K a).go i H ∧ ∃ Nx : Hp → Prop, (∀ H', Nx H' → ∃ m', m' < m ∧ W (i + 1) m' H') ∧ ∀ x H', (Itl K a).yld i H x H' → g x (wipe σ vs) H' fun σ2 H2 => wipe σ2 vs = wipe σ vs ∧ tYes σ2 H2 fun b H3 =>
        if b = true then te σ2 H3 fun y H4 => ∃ acc, H4 D = some (.lst acc) ∧ acc.length < sizeLine ∧ Nx (upd H4 D (.lst (acc ++ [y]))) else Nx H3) := by
  refine lc_list (K := K) (a := a) (xs := xs) (BInv D H1 R) (BInv.start hD) (fun i H _ I => ?_) (fun i x H hx I => ?_) (fun H I => ?_)
  · obtain ⟨_, _, _, s, _⟩ := I
    exact s.seq hS
  · have hi : i < xs.length := (List.getElem?_eq_some_iff.mp hx).1
    have := he i x hx H _ (by obtain ⟨_, _, _, s, _⟩ := I; exact s) (fun y H' s r => I.step hD (by omega) s r)
    exact this
  · obtain ⟨ys, h1, h2, h3, h4⟩ := I.fin Rm
    exact hd ys H h3 h2 h1 h4
theorem lc_rbuild {D : Addr} {lo : Int} {m : Nat} {te : TE} {σ : L2.St} {H1 : Hp} {Qd : Hp → Prop} {vs : List Nat} {g : TG} (R : Nat → V → Hp → Prop) (Rm : ∀ k y G H, R k y G → Same G H → R k y H) (hD : H1 D = none) (hlen : m ≤ 1000000)
    (he : ∀ i, i < m → ∀ (H : Hp) (Q : VK), Same H1 H → (∀ y H', Same H H' → R i y (New H H') → Q y H') → g (.int (lo + i)) (wipe σ vs) H fun σ2 H2 => wipe σ2 vs = wipe σ vs ∧ te σ2 H2 Q)
    (hd : ∀ (ys : List V) (H' : Hp), Same H1 H' → ys.length = m → H' D = some (.lst ys) → (∀ k y, ys[k]? = some y → R k y (New H1 H')) → Qd H') :
    ∃ W : Nat → Nat → Hp → Prop, (∃ m, W 0 m (upd H1 D (.lst []))) ∧ ∀ i m' H, W i m' H →
      ((Itr lo m).stop i H ∧ Qd H) ∨ ((Itr lo m).go i H ∧ ∃ Nx : Hp → Prop, (∀ H', Nx H' → ∃ m'', m'' < m' ∧ W (i + 1) m'' H') ∧ ∀ x H', (Itr lo m).yld i H x H' → g x (wipe σ vs) H' fun σ2 H2 => wipe σ2 vs = wipe σ vs ∧ tYes σ2 H2 fun b H3 =>
        if b = true then te σ2 H3 fun y H4 => ∃ acc, H4 D = some (.lst acc) ∧ acc.length < sizeLine ∧ Nx (upd H4 D (.lst (acc ++ [y]))) else Nx H3) := by
  refine lc_range (BInv D H1 R) (BInv.start hD) (fun i H hi I => ?_) (fun H I => ?_)
  · have := he i hi H _ (by obtain ⟨_, _, _, s, _⟩ := I; exact s) (fun y H' s r => I.step hD (by omega) s r)
    exact this
  · obtain ⟨ys, h1, h2, h3, h4⟩ := I.fin Rm
    exact hd ys H h3 h2 h1 h4
section
variable {X : Cx} {K : PySem.W.Frag} {pos : Pos}
theorem pg_tupK {es : List Expr} {k : Nat} {t : TGs} {n : Nat} (hK : X.K = K) (hc : X.calm = true) (h : PGs X es t)
    (hn : (assignEach es X.env).length = n := by rfl) (hst : (assignEach es X.env).findIdx? (·.1) = none := by rfl) : PG X (.Tuple es k pos) (gTup K n t) := hK ▸ pg_tup hc h hn hst
end
/-! small heaps -/
theorem nv_len' (l : List Nat) : (l.map fun (n : Nat) => V.int (n : Int)).length = l.length := List.length_map ..
end Fs

set_option Elab.async false
set_option maxRecDepth 100000
set_option maxHeartbeats 2000000
namespace Fs
open PySem PySem.Spec PyProof.Rows L2
open PySem.W (Codec)
def top (i : Nat) : Stmt := PySem.Challenge.pw_fireseasons_s01_answers.main.body.getD i (.Pass ⟨0, 0, 0, 0⟩)
abbrev st_break_at : Stmt := top 6
abbrev st_place_of : Stmt := top 7
abbrev st_neighbours : Stmt := top 8
abbrev st_ways_from : Stmt := top 9
abbrev st_Evening_init : Stmt := inClass (top 10) 0
abbrev st_Evening_may_be_cut : Stmt := inClass (top 10) 1
abbrev st_Evening_could_burn : Stmt := inClass (top 10) 2
abbrev st_evening_ahead_of_all : Stmt := top 11
abbrev st_Course_init : Stmt := inClass (top 12) 0
abbrev st_Course_worth_together : Stmt := inClass (top 12) 1
abbrev st_Course_times : Stmt := inClass (top 12) 2
abbrev st_Course_evening_with : Stmt := inClass (top 12) 3
abbrev st_follow_breaks : Stmt := top 15
abbrev st_Row_init : Stmt := inClass (top 16) 0
abbrev st_Row_longer_by : Stmt := inClass (top 16) 1
abbrev st_all_rows : Stmt := top 17
abbrev st_best_rows : Stmt := top 18
abbrev st_all_between : Stmt := top 39
abbrev st_is_rising : Stmt := top 40
abbrev st_are_full_rows : Stmt := top 41
abbrev st_slowness_of : Stmt := top 42
abbrev st_worth_of : Stmt := top 43
abbrev st_is_forest : Stmt := top 44
abbrev st_Day_init : Stmt := inClass (top 45) 0
abbrev st_Day_is_as_told : Stmt := inClass (top 45) 1
abbrev st_behind_lengths : Stmt := top 46
abbrev st_Season_init : Stmt := inClass (top 47) 0
abbrev st_Season_begins : Stmt := inClass (top 47) 1
abbrev st_Season_day : Stmt := inClass (top 47) 2
abbrev st_Season_drop : Stmt := inClass (top 47) 3
abbrev st_Season_are_breaks : Stmt := inClass (top 47) 4
abbrev st_Season_ahead : Stmt := inClass (top 47) 5
abbrev st_Season_courses : Stmt := inClass (top 47) 6
abbrev st_Season_follow : Stmt := inClass (top 47) 7
abbrev st_Season_best : Stmt := inClass (top 47) 8
abbrev st_Season_evening : Stmt := inClass (top 47) 9
abbrev st_Reader_init : Stmt := inClass (top 48) 0
abbrev st_Reader_is_done : Stmt := inClass (top 48) 1
abbrev st_Reader_take : Stmt := inClass (top 48) 2
abbrev st_Reader_number : Stmt := inClass (top 48) 3
abbrev st_Reader_row : Stmt := inClass (top 48) 4
abbrev st_answer_begins : Stmt := top 49
abbrev st_answer_day : Stmt := top 50
abbrev st_answer_evening : Stmt := top 51
abbrev st_answer_call : Stmt := top 52
abbrev st_answers : Stmt := top 53
theorem sc_break_at : FnScope ["place"] ["place"] (defScope st_break_at) := ⟨rfl, rfl, rfl, by decide +kernel, rfl, by decide +kernel, by decide +kernel⟩
theorem sc_place_of : FnScope ["told"] ["told"] (defScope st_place_of) := ⟨rfl, rfl, rfl, by decide +kernel, rfl, by decide +kernel, by decide +kernel⟩
theorem sc_neighbours : FnScope ["wide", "count", "place", "found"] ["wide", "count", "place"] (defScope st_neighbours) := ⟨rfl, rfl, rfl, by decide +kernel, rfl, by decide +kernel, by decide +kernel⟩
theorem sc_ways_from : FnScope ["place", "wide", "slowness", "wind", "direction", "neighbour"] ["place", "wide", "slowness", "wind"] (defScope st_ways_from) := ⟨rfl, rfl, rfl, by decide +kernel, rfl, by decide +kernel, by decide +kernel⟩
theorem sc_Evening_init : FnScope ["self", "burns", "fire", "lost"] ["self", "burns", "fire", "lost"] (defScope st_Evening_init) := ⟨rfl, rfl, rfl, by decide +kernel, rfl, by decide +kernel, by decide +kernel⟩
theorem sc_Evening_may_be_cut : FnScope ["self", "place"] ["self", "place"] (defScope st_Evening_may_be_cut) := ⟨rfl, rfl, rfl, by decide +kernel, rfl, by decide +kernel, by decide +kernel⟩
theorem sc_Evening_could_burn : FnScope ["self", "place"] ["self"] (defScope st_Evening_could_burn) := ⟨rfl, rfl, rfl, by decide +kernel, rfl, by decide +kernel, by decide +kernel⟩
theorem sc_evening_ahead_of_all : FnScope ["slowness", "slow"] ["slowness"] (defScope st_evening_ahead_of_all) := ⟨rfl, rfl, rfl, by decide +kernel, rfl, by decide +kernel, by decide +kernel⟩
theorem sc_Course_init : FnScope ["self", "wide", "slowness", "worth", "day", "place"] ["self", "wide", "slowness", "worth", "day"] (defScope st_Course_init) := ⟨rfl, rfl, rfl, by decide +kernel, rfl, by decide +kernel, by decide +kernel⟩
theorem sc_Course_worth_together : FnScope ["self", "places", "place"] ["self", "places"] (defScope st_Course_worth_together) := ⟨rfl, rfl, rfl, by decide +kernel, rfl, by decide +kernel, by decide +kernel⟩
theorem sc_Course_times : FnScope ["self", "burns", "starts", "too_late", "times", "place", "reached", "sooner", "neighbour", "taken"] ["self", "burns", "starts"] (defScope st_Course_times) := ⟨rfl, rfl, rfl, by decide +kernel, rfl, by decide +kernel, by decide +kernel⟩
theorem sc_Course_evening_with : FnScope ["self", "told", "before", "burns", "lost", "lit", "place", "times", "burnt"] ["self", "told", "before"] (defScope st_Course_evening_with) := ⟨rfl, rfl, rfl, by decide +kernel, rfl, by decide +kernel, by decide +kernel⟩
theorem sc_follow_breaks : FnScope ["courses", "ahead", "breaks", "evenings", "course", "told", "before"] ["courses", "ahead", "breaks"] (defScope st_follow_breaks) := ⟨rfl, rfl, rfl, by decide +kernel, rfl, by decide +kernel, by decide +kernel⟩
theorem sc_Row_init : FnScope ["self", "breaks", "last"] ["self", "breaks", "last"] (defScope st_Row_init) := ⟨rfl, rfl, rfl, by decide +kernel, rfl, by decide +kernel, by decide +kernel⟩
theorem sc_Row_longer_by : FnScope ["self", "course", "choices", "place", "told"] ["self", "course"] (defScope st_Row_longer_by) := ⟨rfl, rfl, rfl, by decide +kernel, rfl, by decide +kernel, by decide +kernel⟩
theorem sc_all_rows : FnScope ["courses", "ahead", "rows", "course", "longer", "row"] ["courses", "ahead"] (defScope st_all_rows) := ⟨rfl, rfl, rfl, by decide +kernel, rfl, by decide +kernel, by decide +kernel⟩
theorem sc_best_rows : FnScope ["courses", "ahead", "rows", "least", "row"] ["courses", "ahead"] (defScope st_best_rows) := ⟨rfl, rfl, rfl, by decide +kernel, rfl, by decide +kernel, by decide +kernel⟩
theorem sc_all_between : FnScope ["numbers", "lowest", "highest", "number"] ["numbers", "lowest", "highest"] (defScope st_all_between) := ⟨rfl, rfl, rfl, by decide +kernel, rfl, by decide +kernel, by decide +kernel⟩
theorem sc_is_rising : FnScope ["numbers", "k"] ["numbers"] (defScope st_is_rising) := ⟨rfl, rfl, rfl, by decide +kernel, rfl, by decide +kernel, by decide +kernel⟩
theorem sc_are_full_rows : FnScope ["wide", "count"] ["wide", "count"] (defScope st_are_full_rows) := ⟨rfl, rfl, rfl, by decide +kernel, rfl, by decide +kernel, by decide +kernel⟩
theorem sc_slowness_of : FnScope ["places"] ["places"] (defScope st_slowness_of) := ⟨rfl, rfl, rfl, by decide +kernel, rfl, by decide +kernel, by decide +kernel⟩
theorem sc_worth_of : FnScope ["places"] ["places"] (defScope st_worth_of) := ⟨rfl, rfl, rfl, by decide +kernel, rfl, by decide +kernel, by decide +kernel⟩
theorem sc_is_forest : FnScope ["wide", "places"] ["wide", "places"] (defScope st_is_forest) := ⟨rfl, rfl, rfl, by decide +kernel, rfl, by decide +kernel, by decide +kernel⟩
theorem sc_Day_init : FnScope ["self", "wind", "minutes", "where"] ["self", "wind", "minutes", "where"] (defScope st_Day_init) := ⟨rfl, rfl, rfl, by decide +kernel, rfl, by decide +kernel, by decide +kernel⟩
theorem sc_Day_is_as_told : FnScope ["self", "count"] ["self", "count"] (defScope st_Day_is_as_told) := ⟨rfl, rfl, rfl, by decide +kernel, rfl, by decide +kernel, by decide +kernel⟩
theorem sc_behind_lengths : FnScope ["lists", "told", "one"] ["lists"] (defScope st_behind_lengths) := ⟨rfl, rfl, rfl, by decide +kernel, rfl, by decide +kernel, by decide +kernel⟩
theorem sc_Season_init : FnScope ["self"] ["self"] (defScope st_Season_init) := ⟨rfl, rfl, rfl, by decide +kernel, rfl, by decide +kernel, by decide +kernel⟩
theorem sc_Season_begins : FnScope ["self", "wide", "places"] ["self", "wide", "places"] (defScope st_Season_begins) := ⟨rfl, rfl, rfl, by decide +kernel, rfl, by decide +kernel, by decide +kernel⟩
theorem sc_Season_day : FnScope ["self", "wind", "minutes", "where", "added"] ["self", "wind", "minutes", "where"] (defScope st_Season_day) := ⟨rfl, rfl, rfl, by decide +kernel, rfl, by decide +kernel, by decide +kernel⟩
theorem sc_Season_drop : FnScope ["self"] ["self"] (defScope st_Season_drop) := ⟨rfl, rfl, rfl, by decide +kernel, rfl, by decide +kernel, by decide +kernel⟩
theorem sc_Season_are_breaks : FnScope ["self", "breaks"] ["self", "breaks"] (defScope st_Season_are_breaks) := ⟨rfl, rfl, rfl, by decide +kernel, rfl, by decide +kernel, by decide +kernel⟩
theorem sc_Season_ahead : FnScope ["self"] ["self"] (defScope st_Season_ahead) := ⟨rfl, rfl, rfl, by decide +kernel, rfl, by decide +kernel, by decide +kernel⟩
theorem sc_Season_courses : FnScope ["self", "day"] ["self"] (defScope st_Season_courses) := ⟨rfl, rfl, rfl, by decide +kernel, rfl, by decide +kernel, by decide +kernel⟩
theorem sc_Season_follow : FnScope ["self", "breaks", "evenings", "evening"] ["self", "breaks"] (defScope st_Season_follow) := ⟨rfl, rfl, rfl, by decide +kernel, rfl, by decide +kernel, by decide +kernel⟩
theorem sc_Season_best : FnScope ["self", "rows"] ["self"] (defScope st_Season_best) := ⟨rfl, rfl, rfl, by decide +kernel, rfl, by decide +kernel, by decide +kernel⟩
theorem sc_Season_evening : FnScope ["self", "k", "breaks", "evenings"] ["self", "k", "breaks"] (defScope st_Season_evening) := ⟨rfl, rfl, rfl, by decide +kernel, rfl, by decide +kernel, by decide +kernel⟩
theorem sc_Reader_init : FnScope ["self", "calls"] ["self", "calls"] (defScope st_Reader_init) := ⟨rfl, rfl, rfl, by decide +kernel, rfl, by decide +kernel, by decide +kernel⟩
theorem sc_Reader_is_done : FnScope ["self"] ["self"] (defScope st_Reader_is_done) := ⟨rfl, rfl, rfl, by decide +kernel, rfl, by decide +kernel, by decide +kernel⟩
theorem sc_Reader_take : FnScope ["self", "many", "taken"] ["self", "many"] (defScope st_Reader_take) := ⟨rfl, rfl, rfl, by decide +kernel, rfl, by decide +kernel, by decide +kernel⟩
theorem sc_Reader_number : FnScope ["self"] ["self"] (defScope st_Reader_number) := ⟨rfl, rfl, rfl, by decide +kernel, rfl, by decide +kernel, by decide +kernel⟩
theorem sc_Reader_row : FnScope ["self"] ["self"] (defScope st_Reader_row) := ⟨rfl, rfl, rfl, by decide +kernel, rfl, by decide +kernel, by decide +kernel⟩
theorem sc_answer_begins : FnScope ["season", "reader", "wide", "places"] ["season", "reader"] (defScope st_answer_begins) := ⟨rfl, rfl, rfl, by decide +kernel, rfl, by decide +kernel, by decide +kernel⟩
theorem sc_answer_day : FnScope ["season", "reader", "wind", "minutes", "where"] ["season", "reader"] (defScope st_answer_day) := ⟨rfl, rfl, rfl, by decide +kernel, rfl, by decide +kernel, by decide +kernel⟩
theorem sc_answer_evening : FnScope ["season", "reader", "k", "breaks"] ["season", "reader"] (defScope st_answer_evening) := ⟨rfl, rfl, rfl, by decide +kernel, rfl, by decide +kernel, by decide +kernel⟩
theorem sc_answer_call : FnScope ["season", "reader", "call"] ["season", "reader"] (defScope st_answer_call) := ⟨rfl, rfl, rfl, by decide +kernel, rfl, by decide +kernel, by decide +kernel⟩
theorem sc_answers : FnScope ["calls", "season", "reader", "given", "answer"] ["calls"] (defScope st_answers) := ⟨rfl, rfl, rfl, by decide +kernel, rfl, by decide +kernel, by decide +kernel⟩
structure Ads where
  c_Evening : Addr
  c_Course : Addr
  c_Row : Addr
  c_Day : Addr
  c_Season : Addr
  c_Reader : Addr
  c_MayNotBeCut : Addr
  f_break_at : Addr
  d_break_at : FuncData
  f_place_of : Addr
  d_place_of : FuncData
  f_neighbours : Addr
  d_neighbours : FuncData
  f_ways_from : Addr
  d_ways_from : FuncData
  f_Evening_init : Addr
  d_Evening_init : FuncData
  f_Evening_may_be_cut : Addr
  d_Evening_may_be_cut : FuncData
  f_Evening_could_burn : Addr
  d_Evening_could_burn : FuncData
  f_evening_ahead_of_all : Addr
  d_evening_ahead_of_all : FuncData
  f_Course_init : Addr
  d_Course_init : FuncData
  f_Course_worth_together : Addr
  d_Course_worth_together : FuncData
  f_Course_times : Addr
  d_Course_times : FuncData
  f_Course_evening_with : Addr
  d_Course_evening_with : FuncData
  f_follow_breaks : Addr
  d_follow_breaks : FuncData
  f_Row_init : Addr
  d_Row_init : FuncData
  f_Row_longer_by : Addr
  d_Row_longer_by : FuncData
  f_all_rows : Addr
  d_all_rows : FuncData
  f_best_rows : Addr
  d_best_rows : FuncData
  f_all_between : Addr
  d_all_between : FuncData
  f_is_rising : Addr
  d_is_rising : FuncData
  f_are_full_rows : Addr
  d_are_full_rows : FuncData
  f_slowness_of : Addr
  d_slowness_of : FuncData
  f_worth_of : Addr
  d_worth_of : FuncData
  f_is_forest : Addr
  d_is_forest : FuncData
  f_Day_init : Addr
  d_Day_init : FuncData
  f_Day_is_as_told : Addr
  d_Day_is_as_told : FuncData
  f_behind_lengths : Addr
  d_behind_lengths : FuncData
  f_Season_init : Addr
  d_Season_init : FuncData
  f_Season_begins : Addr
  d_Season_begins : FuncData
  f_Season_day : Addr
  d_Season_day : FuncData
  f_Season_drop : Addr
  d_Season_drop : FuncData
  f_Season_are_breaks : Addr
  d_Season_are_breaks : FuncData
  f_Season_ahead : Addr
  d_Season_ahead : FuncData
  f_Season_courses : Addr
  d_Season_courses : FuncData
  f_Season_follow : Addr
  d_Season_follow : FuncData
  f_Season_best : Addr
  d_Season_best : FuncData
  f_Season_evening : Addr
  d_Season_evening : FuncData
  f_Reader_init : Addr
  d_Reader_init : FuncData
  f_Reader_is_done : Addr
  d_Reader_is_done : FuncData
  f_Reader_take : Addr
  d_Reader_take : FuncData
  f_Reader_number : Addr
  d_Reader_number : FuncData
  f_Reader_row : Addr
  d_Reader_row : FuncData
  f_answer_begins : Addr
  d_answer_begins : FuncData
  f_answer_day : Addr
  d_answer_day : FuncData
  f_answer_evening : Addr
  d_answer_evening : FuncData
  f_answer_call : Addr
  d_answer_call : FuncData
  f_answers : Addr
  d_answers : FuncData
structure Txt (K : PySem.W.Frag) (mg : Str → Option Value) (a : Ads) : Prop where
  b_all : mg "all" = none
  b_len : mg "len" = none
  b_list : mg "list" = none
  b_min : mg "min" = none
  b_range : mg "range" = none
  b_sum : mg "sum" = none
  b_zip : mg "zip" = none
  k_UP : ∃ t, mg "UP" = some (.int (0) t)
  k_RIGHT : ∃ t, mg "RIGHT" = some (.int (1) t)
  k_DOWN : ∃ t, mg "DOWN" = some (.int (2) t)
  k_LEFT : ∃ t, mg "LEFT" = some (.int (3) t)
  k_NO_BREAK : ∃ t, mg "NO_BREAK" = some (.int (0) t)
  k_BEGINS : ∃ t, mg "BEGINS" = some (.int (0) t)
  k_DAY : ∃ t, mg "DAY" = some (.int (1) t)
  k_DROP : ∃ t, mg "DROP" = some (.int (2) t)
  k_FOLLOW : ∃ t, mg "FOLLOW" = some (.int (3) t)
  k_BEST : ∃ t, mg "BEST" = some (.int (4) t)
  k_EVENING : ∃ t, mg "EVENING" = some (.int (5) t)
  k_NOT_AS_TOLD : ∃ t, mg "NOT_AS_TOLD" = some (.int (-1) t)
  k_NO_DAYS : ∃ t, mg "NO_DAYS" = some (.int (-4) t)
  k_ENOUGH_DAYS : ∃ t, mg "ENOUGH_DAYS" = some (.int (-5) t)
  k_NOT_CUT_THERE : ∃ t, mg "NOT_CUT_THERE" = some (.int (-6) t)
  k_MOST_IN_A_ROW : ∃ t, mg "MOST_IN_A_ROW" = some (.int (4) t)
  k_MOST_ROWS : ∃ t, mg "MOST_ROWS" = some (.int (4) t)
  k_SLOWEST : ∃ t, mg "SLOWEST" = some (.int (60) t)
  k_MOST_WORTH : ∃ t, mg "MOST_WORTH" = some (.int (1000) t)
  k_STRONGEST_WIND : ∃ t, mg "STRONGEST_WIND" = some (.int (9) t)
  k_MOST_MINUTES : ∃ t, mg "MOST_MINUTES" = some (.int (100000) t)
  k_MOST_DAYS : ∃ t, mg "MOST_DAYS" = some (.int (3) t)
  k_DIRECTIONS : ∃ t, mg "DIRECTIONS" = some (.int (4) t)
  cl_Evening : Cls K a.c_Evening
  g_Evening : mg "Evening" = some (.ref a.c_Evening)
  mk_Evening : Mk K a.c_Evening a.f_Evening_init
  n_Evening_burns : NoAttr K a.c_Evening "burns"
  n_Evening_fire : NoAttr K a.c_Evening "fire"
  n_Evening_lost : NoAttr K a.c_Evening "lost"
  me_Evening_may_be_cut : Meth K a.c_Evening "may_be_cut" a.f_Evening_may_be_cut
  me_Evening_could_burn : Meth K a.c_Evening "could_burn" a.f_Evening_could_burn
  cl_Course : Cls K a.c_Course
  g_Course : mg "Course" = some (.ref a.c_Course)
  mk_Course : Mk K a.c_Course a.f_Course_init
  n_Course_minutes : NoAttr K a.c_Course "minutes"
  n_Course_ways : NoAttr K a.c_Course "ways"
  n_Course_where : NoAttr K a.c_Course "where"
  n_Course_worth : NoAttr K a.c_Course "worth"
  me_Course_worth_together : Meth K a.c_Course "worth_together" a.f_Course_worth_together
  me_Course_times : Meth K a.c_Course "times" a.f_Course_times
  me_Course_evening_with : Meth K a.c_Course "evening_with" a.f_Course_evening_with
  cl_Row : Cls K a.c_Row
  g_Row : mg "Row" = some (.ref a.c_Row)
  mk_Row : Mk K a.c_Row a.f_Row_init
  n_Row_breaks : NoAttr K a.c_Row "breaks"
  n_Row_last : NoAttr K a.c_Row "last"
  me_Row_longer_by : Meth K a.c_Row "longer_by" a.f_Row_longer_by
  cl_Day : Cls K a.c_Day
  g_Day : mg "Day" = some (.ref a.c_Day)
  mk_Day : Mk K a.c_Day a.f_Day_init
  n_Day_minutes : NoAttr K a.c_Day "minutes"
  n_Day_where : NoAttr K a.c_Day "where"
  n_Day_wind : NoAttr K a.c_Day "wind"
  me_Day_is_as_told : Meth K a.c_Day "is_as_told" a.f_Day_is_as_told
  cl_Season : Cls K a.c_Season
  g_Season : mg "Season" = some (.ref a.c_Season)
  mk_Season : Mk K a.c_Season a.f_Season_init
  n_Season_days : NoAttr K a.c_Season "days"
  n_Season_slowness : NoAttr K a.c_Season "slowness"
  n_Season_wide : NoAttr K a.c_Season "wide"
  n_Season_worth : NoAttr K a.c_Season "worth"
  me_Season_begins : Meth K a.c_Season "begins" a.f_Season_begins
  me_Season_day : Meth K a.c_Season "day" a.f_Season_day
  me_Season_drop : Meth K a.c_Season "drop" a.f_Season_drop
  me_Season_are_breaks : Meth K a.c_Season "are_breaks" a.f_Season_are_breaks
  me_Season_ahead : Meth K a.c_Season "ahead" a.f_Season_ahead
  me_Season_courses : Meth K a.c_Season "courses" a.f_Season_courses
  me_Season_follow : Meth K a.c_Season "follow" a.f_Season_follow
  me_Season_best : Meth K a.c_Season "best" a.f_Season_best
  me_Season_evening : Meth K a.c_Season "evening" a.f_Season_evening
  cl_Reader : Cls K a.c_Reader
  g_Reader : mg "Reader" = some (.ref a.c_Reader)
  mk_Reader : Mk K a.c_Reader a.f_Reader_init
  n_Reader_calls : NoAttr K a.c_Reader "calls"
  n_Reader_position : NoAttr K a.c_Reader "position"
  me_Reader_is_done : Meth K a.c_Reader "is_done" a.f_Reader_is_done
  me_Reader_take : Meth K a.c_Reader "take" a.f_Reader_take
  me_Reader_number : Meth K a.c_Reader "number" a.f_Reader_number
  me_Reader_row : Meth K a.c_Reader "row" a.f_Reader_row
  F_break_at : Fun K "break_at" "break_at" st_break_at a.f_break_at a.d_break_at
  B_break_at : Binds K a.d_break_at ["place"] []
  g_break_at : mg "break_at" = some (.ref a.f_break_at)
  F_place_of : Fun K "place_of" "place_of" st_place_of a.f_place_of a.d_place_of
  B_place_of : Binds K a.d_place_of ["told"] []
  g_place_of : mg "place_of" = some (.ref a.f_place_of)
  F_neighbours : Fun K "neighbours" "neighbours" st_neighbours a.f_neighbours a.d_neighbours
  B_neighbours : Binds K a.d_neighbours ["wide", "count", "place"] []
  g_neighbours : mg "neighbours" = some (.ref a.f_neighbours)
  F_ways_from : Fun K "ways_from" "ways_from" st_ways_from a.f_ways_from a.d_ways_from
  B_ways_from : Binds K a.d_ways_from ["place", "wide", "slowness", "wind"] []
  g_ways_from : mg "ways_from" = some (.ref a.f_ways_from)
  F_Evening_init : Fun K "__init__" "Evening.__init__" st_Evening_init a.f_Evening_init a.d_Evening_init
  B_Evening_init : Binds K a.d_Evening_init ["self", "burns", "fire", "lost"] []
  F_Evening_may_be_cut : Fun K "may_be_cut" "Evening.may_be_cut" st_Evening_may_be_cut a.f_Evening_may_be_cut a.d_Evening_may_be_cut
  B_Evening_may_be_cut : Binds K a.d_Evening_may_be_cut ["self", "place"] []
  F_Evening_could_burn : Fun K "could_burn" "Evening.could_burn" st_Evening_could_burn a.f_Evening_could_burn a.d_Evening_could_burn
  B_Evening_could_burn : Binds K a.d_Evening_could_burn ["self"] []
  F_evening_ahead_of_all : Fun K "evening_ahead_of_all" "evening_ahead_of_all" st_evening_ahead_of_all a.f_evening_ahead_of_all a.d_evening_ahead_of_all
  B_evening_ahead_of_all : Binds K a.d_evening_ahead_of_all ["slowness"] []
  g_evening_ahead_of_all : mg "evening_ahead_of_all" = some (.ref a.f_evening_ahead_of_all)
  F_Course_init : Fun K "__init__" "Course.__init__" st_Course_init a.f_Course_init a.d_Course_init
  B_Course_init : Binds K a.d_Course_init ["self", "wide", "slowness", "worth", "day"] []
  F_Course_worth_together : Fun K "worth_together" "Course.worth_together" st_Course_worth_together a.f_Course_worth_together a.d_Course_worth_together
  B_Course_worth_together : Binds K a.d_Course_worth_together ["self", "places"] []
  F_Course_times : Fun K "times" "Course.times" st_Course_times a.f_Course_times a.d_Course_times
  B_Course_times : Binds K a.d_Course_times ["self", "burns", "starts"] []
  F_Course_evening_with : Fun K "evening_with" "Course.evening_with" st_Course_evening_with a.f_Course_evening_with a.d_Course_evening_with
  B_Course_evening_with : Binds K a.d_Course_evening_with ["self", "told", "before"] []
  F_follow_breaks : Fun K "follow_breaks" "follow_breaks" st_follow_breaks a.f_follow_breaks a.d_follow_breaks
  B_follow_breaks : Binds K a.d_follow_breaks ["courses", "ahead", "breaks"] []
  g_follow_breaks : mg "follow_breaks" = some (.ref a.f_follow_breaks)
  F_Row_init : Fun K "__init__" "Row.__init__" st_Row_init a.f_Row_init a.d_Row_init
  B_Row_init : Binds K a.d_Row_init ["self", "breaks", "last"] []
  F_Row_longer_by : Fun K "longer_by" "Row.longer_by" st_Row_longer_by a.f_Row_longer_by a.d_Row_longer_by
  B_Row_longer_by : Binds K a.d_Row_longer_by ["self", "course"] []
  F_all_rows : Fun K "all_rows" "all_rows" st_all_rows a.f_all_rows a.d_all_rows
  B_all_rows : Binds K a.d_all_rows ["courses", "ahead"] []
  g_all_rows : mg "all_rows" = some (.ref a.f_all_rows)
  F_best_rows : Fun K "best_rows" "best_rows" st_best_rows a.f_best_rows a.d_best_rows
  B_best_rows : Binds K a.d_best_rows ["courses", "ahead"] []
  g_best_rows : mg "best_rows" = some (.ref a.f_best_rows)
  F_all_between : Fun K "all_between" "all_between" st_all_between a.f_all_between a.d_all_between
  B_all_between : Binds K a.d_all_between ["numbers", "lowest", "highest"] []
  g_all_between : mg "all_between" = some (.ref a.f_all_between)
  F_is_rising : Fun K "is_rising" "is_rising" st_is_rising a.f_is_rising a.d_is_rising
  B_is_rising : Binds K a.d_is_rising ["numbers"] []
  g_is_rising : mg "is_rising" = some (.ref a.f_is_rising)
  F_are_full_rows : Fun K "are_full_rows" "are_full_rows" st_are_full_rows a.f_are_full_rows a.d_are_full_rows
  B_are_full_rows : Binds K a.d_are_full_rows ["wide", "count"] []
  g_are_full_rows : mg "are_full_rows" = some (.ref a.f_are_full_rows)
  F_slowness_of : Fun K "slowness_of" "slowness_of" st_slowness_of a.f_slowness_of a.d_slowness_of
  B_slowness_of : Binds K a.d_slowness_of ["places"] []
  g_slowness_of : mg "slowness_of" = some (.ref a.f_slowness_of)
  F_worth_of : Fun K "worth_of" "worth_of" st_worth_of a.f_worth_of a.d_worth_of
  B_worth_of : Binds K a.d_worth_of ["places"] []
  g_worth_of : mg "worth_of" = some (.ref a.f_worth_of)
  F_is_forest : Fun K "is_forest" "is_forest" st_is_forest a.f_is_forest a.d_is_forest
  B_is_forest : Binds K a.d_is_forest ["wide", "places"] []
  g_is_forest : mg "is_forest" = some (.ref a.f_is_forest)
  F_Day_init : Fun K "__init__" "Day.__init__" st_Day_init a.f_Day_init a.d_Day_init
  B_Day_init : Binds K a.d_Day_init ["self", "wind", "minutes", "where"] []
  F_Day_is_as_told : Fun K "is_as_told" "Day.is_as_told" st_Day_is_as_told a.f_Day_is_as_told a.d_Day_is_as_told
  B_Day_is_as_told : Binds K a.d_Day_is_as_told ["self", "count"] []
  F_behind_lengths : Fun K "behind_lengths" "behind_lengths" st_behind_lengths a.f_behind_lengths a.d_behind_lengths
  B_behind_lengths : Binds K a.d_behind_lengths ["lists"] []
  g_behind_lengths : mg "behind_lengths" = some (.ref a.f_behind_lengths)
  F_Season_init : Fun K "__init__" "Season.__init__" st_Season_init a.f_Season_init a.d_Season_init
  B_Season_init : Binds K a.d_Season_init ["self"] []
  F_Season_begins : Fun K "begins" "Season.begins" st_Season_begins a.f_Season_begins a.d_Season_begins
  B_Season_begins : Binds K a.d_Season_begins ["self", "wide", "places"] []
  F_Season_day : Fun K "day" "Season.day" st_Season_day a.f_Season_day a.d_Season_day
  B_Season_day : Binds K a.d_Season_day ["self", "wind", "minutes", "where"] []
  F_Season_drop : Fun K "drop" "Season.drop" st_Season_drop a.f_Season_drop a.d_Season_drop
  B_Season_drop : Binds K a.d_Season_drop ["self"] []
  F_Season_are_breaks : Fun K "are_breaks" "Season.are_breaks" st_Season_are_breaks a.f_Season_are_breaks a.d_Season_are_breaks
  B_Season_are_breaks : Binds K a.d_Season_are_breaks ["self", "breaks"] []
  F_Season_ahead : Fun K "ahead" "Season.ahead" st_Season_ahead a.f_Season_ahead a.d_Season_ahead
  B_Season_ahead : Binds K a.d_Season_ahead ["self"] []
  F_Season_courses : Fun K "courses" "Season.courses" st_Season_courses a.f_Season_courses a.d_Season_courses
  B_Season_courses : Binds K a.d_Season_courses ["self"] []
  F_Season_follow : Fun K "follow" "Season.follow" st_Season_follow a.f_Season_follow a.d_Season_follow
  B_Season_follow : Binds K a.d_Season_follow ["self", "breaks"] []
  F_Season_best : Fun K "best" "Season.best" st_Season_best a.f_Season_best a.d_Season_best
  B_Season_best : Binds K a.d_Season_best ["self"] []
  F_Season_evening : Fun K "evening" "Season.evening" st_Season_evening a.f_Season_evening a.d_Season_evening
  B_Season_evening : Binds K a.d_Season_evening ["self", "k", "breaks"] []
  F_Reader_init : Fun K "__init__" "Reader.__init__" st_Reader_init a.f_Reader_init a.d_Reader_init
  B_Reader_init : Binds K a.d_Reader_init ["self", "calls"] []
  F_Reader_is_done : Fun K "is_done" "Reader.is_done" st_Reader_is_done a.f_Reader_is_done a.d_Reader_is_done
  B_Reader_is_done : Binds K a.d_Reader_is_done ["self"] []
  F_Reader_take : Fun K "take" "Reader.take" st_Reader_take a.f_Reader_take a.d_Reader_take
  B_Reader_take : Binds K a.d_Reader_take ["self", "many"] []
  F_Reader_number : Fun K "number" "Reader.number" st_Reader_number a.f_Reader_number a.d_Reader_number
  B_Reader_number : Binds K a.d_Reader_number ["self"] []
  F_Reader_row : Fun K "row" "Reader.row" st_Reader_row a.f_Reader_row a.d_Reader_row
  B_Reader_row : Binds K a.d_Reader_row ["self"] []
  F_answer_begins : Fun K "answer_begins" "answer_begins" st_answer_begins a.f_answer_begins a.d_answer_begins
  B_answer_begins : Binds K a.d_answer_begins ["season", "reader"] []
  g_answer_begins : mg "answer_begins" = some (.ref a.f_answer_begins)
  F_answer_day : Fun K "answer_day" "answer_day" st_answer_day a.f_answer_day a.d_answer_day
  B_answer_day : Binds K a.d_answer_day ["season", "reader"] []
  g_answer_day : mg "answer_day" = some (.ref a.f_answer_day)
  F_answer_evening : Fun K "answer_evening" "answer_evening" st_answer_evening a.f_answer_evening a.d_answer_evening
  B_answer_evening : Binds K a.d_answer_evening ["season", "reader"] []
  g_answer_evening : mg "answer_evening" = some (.ref a.f_answer_evening)
  F_answer_call : Fun K "answer_call" "answer_call" st_answer_call a.f_answer_call a.d_answer_call
  B_answer_call : Binds K a.d_answer_call ["season", "reader"] []
  g_answer_call : mg "answer_call" = some (.ref a.f_answer_call)
  F_answers : Fun K "answers" "answers" st_answers a.f_answers a.d_answers
  B_answers : Binds K a.d_answers ["calls"] []
  g_answers : mg "answers" = some (.ref a.f_answers)
  g_MayNotBeCut : mg "MayNotBeCut" = some (.ref a.c_MayNotBeCut)
  e_MayNotBeCut : PySem.W.excIn K a.c_MayNotBeCut vErr "ValueError.__new__" = true
theorem txt_mk {K : PySem.W.Frag} {h : Heap} {mg : Str → Option Value} {fa : Addr} (X : K.In h) (G : h.Ns mainGlobals mg) (hfa : mg "answers" = some (.ref fa))
    {t_UP : Tok}
    {t_RIGHT : Tok}
    {t_DOWN : Tok}
    {t_LEFT : Tok}
    {t_NO_BREAK : Tok}
    {t_BEGINS : Tok}
    {t_DAY : Tok}
    {t_DROP : Tok}
    {t_FOLLOW : Tok}
    {t_BEST : Tok}
    {t_EVENING : Tok}
    {t_NOT_AS_TOLD : Tok}
    {t_NO_DAYS : Tok}
    {t_ENOUGH_DAYS : Tok}
    {t_NOT_CUT_THERE : Tok}
    {t_MOST_IN_A_ROW : Tok}
    {t_MOST_ROWS : Tok}
    {t_SLOWEST : Tok}
    {t_MOST_WORTH : Tok}
    {t_STRONGEST_WIND : Tok}
    {t_MOST_MINUTES : Tok}
    {t_MOST_DAYS : Tok}
    {t_DIRECTIONS : Tok}
    {C_Evening : Addr}
    {C_Course : Addr}
    {C_Row : Addr}
    {C_Day : Addr}
    {C_Season : Addr}
    {C_Reader : Addr}
    {C_MayNotBeCut : Addr}
    {f_break_at : Addr} {od_break_at an_break_at : Option Addr} {sl_break_at : Array (Option Value)} {oc_break_at kV_break_at dc_break_at pm_break_at cd_break_at ct_break_at : Value}
    {f_place_of : Addr} {od_place_of an_place_of : Option Addr} {sl_place_of : Array (Option Value)} {oc_place_of kV_place_of dc_place_of pm_place_of cd_place_of ct_place_of : Value}
    {f_neighbours : Addr} {od_neighbours an_neighbours : Option Addr} {sl_neighbours : Array (Option Value)} {oc_neighbours kV_neighbours dc_neighbours pm_neighbours cd_neighbours ct_neighbours : Value}
    {f_ways_from : Addr} {od_ways_from an_ways_from : Option Addr} {sl_ways_from : Array (Option Value)} {oc_ways_from kV_ways_from dc_ways_from pm_ways_from cd_ways_from ct_ways_from : Value}
    {f_Evening_init : Addr} {od_Evening_init an_Evening_init : Option Addr} {sl_Evening_init : Array (Option Value)} {oc_Evening_init kV_Evening_init dc_Evening_init pm_Evening_init cd_Evening_init ct_Evening_init : Value}
    {f_Evening_may_be_cut : Addr} {od_Evening_may_be_cut an_Evening_may_be_cut : Option Addr} {sl_Evening_may_be_cut : Array (Option Value)} {oc_Evening_may_be_cut kV_Evening_may_be_cut dc_Evening_may_be_cut pm_Evening_may_be_cut cd_Evening_may_be_cut ct_Evening_may_be_cut : Value}
    {f_Evening_could_burn : Addr} {od_Evening_could_burn an_Evening_could_burn : Option Addr} {sl_Evening_could_burn : Array (Option Value)} {oc_Evening_could_burn kV_Evening_could_burn dc_Evening_could_burn pm_Evening_could_burn cd_Evening_could_burn ct_Evening_could_burn : Value}
    {f_evening_ahead_of_all : Addr} {od_evening_ahead_of_all an_evening_ahead_of_all : Option Addr} {sl_evening_ahead_of_all : Array (Option Value)} {oc_evening_ahead_of_all kV_evening_ahead_of_all dc_evening_ahead_of_all pm_evening_ahead_of_all cd_evening_ahead_of_all ct_evening_ahead_of_all : Value}
    {f_Course_init : Addr} {od_Course_init an_Course_init : Option Addr} {sl_Course_init : Array (Option Value)} {oc_Course_init kV_Course_init dc_Course_init pm_Course_init cd_Course_init ct_Course_init : Value}
    {f_Course_worth_together : Addr} {od_Course_worth_together an_Course_worth_together : Option Addr} {sl_Course_worth_together : Array (Option Value)} {oc_Course_worth_together kV_Course_worth_together dc_Course_worth_together pm_Course_worth_together cd_Course_worth_together ct_Course_worth_together : Value}
    {f_Course_times : Addr} {od_Course_times an_Course_times : Option Addr} {sl_Course_times : Array (Option Value)} {oc_Course_times kV_Course_times dc_Course_times pm_Course_times cd_Course_times ct_Course_times : Value}
    {f_Course_evening_with : Addr} {od_Course_evening_with an_Course_evening_with : Option Addr} {sl_Course_evening_with : Array (Option Value)} {oc_Course_evening_with kV_Course_evening_with dc_Course_evening_with pm_Course_evening_with cd_Course_evening_with ct_Course_evening_with : Value}
    {f_follow_breaks : Addr} {od_follow_breaks an_follow_breaks : Option Addr} {sl_follow_breaks : Array (Option Value)} {oc_follow_breaks kV_follow_breaks dc_follow_breaks pm_follow_breaks cd_follow_breaks ct_follow_breaks : Value}
    {f_Row_init : Addr} {od_Row_init an_Row_init : Option Addr} {sl_Row_init : Array (Option Value)} {oc_Row_init kV_Row_init dc_Row_init pm_Row_init cd_Row_init ct_Row_init : Value}
    {f_Row_longer_by : Addr} {od_Row_longer_by an_Row_longer_by : Option Addr} {sl_Row_longer_by : Array (Option Value)} {oc_Row_longer_by kV_Row_longer_by dc_Row_longer_by pm_Row_longer_by cd_Row_longer_by ct_Row_longer_by : Value}
    {f_all_rows : Addr} {od_all_rows an_all_rows : Option Addr} {sl_all_rows : Array (Option Value)} {oc_all_rows kV_all_rows dc_all_rows pm_all_rows cd_all_rows ct_all_rows : Value}
    {f_best_rows : Addr} {od_best_rows an_best_rows : Option Addr} {sl_best_rows : Array (Option Value)} {oc_best_rows kV_best_rows dc_best_rows pm_best_rows cd_best_rows ct_best_rows : Value}
    {f_all_between : Addr} {od_all_between an_all_between : Option Addr} {sl_all_between : Array (Option Value)} {oc_all_between kV_all_between dc_all_between pm_all_between cd_all_between ct_all_between : Value}
    {f_is_rising : Addr} {od_is_rising an_is_rising : Option Addr} {sl_is_rising : Array (Option Value)} {oc_is_rising kV_is_rising dc_is_rising pm_is_rising cd_is_rising ct_is_rising : Value}
    {f_are_full_rows : Addr} {od_are_full_rows an_are_full_rows : Option Addr} {sl_are_full_rows : Array (Option Value)} {oc_are_full_rows kV_are_full_rows dc_are_full_rows pm_are_full_rows cd_are_full_rows ct_are_full_rows : Value}
    {f_slowness_of : Addr} {od_slowness_of an_slowness_of : Option Addr} {sl_slowness_of : Array (Option Value)} {oc_slowness_of kV_slowness_of dc_slowness_of pm_slowness_of cd_slowness_of ct_slowness_of : Value}
    {f_worth_of : Addr} {od_worth_of an_worth_of : Option Addr} {sl_worth_of : Array (Option Value)} {oc_worth_of kV_worth_of dc_worth_of pm_worth_of cd_worth_of ct_worth_of : Value}
    {f_is_forest : Addr} {od_is_forest an_is_forest : Option Addr} {sl_is_forest : Array (Option Value)} {oc_is_forest kV_is_forest dc_is_forest pm_is_forest cd_is_forest ct_is_forest : Value}
    {f_Day_init : Addr} {od_Day_init an_Day_init : Option Addr} {sl_Day_init : Array (Option Value)} {oc_Day_init kV_Day_init dc_Day_init pm_Day_init cd_Day_init ct_Day_init : Value}
    {f_Day_is_as_told : Addr} {od_Day_is_as_told an_Day_is_as_told : Option Addr} {sl_Day_is_as_told : Array (Option Value)} {oc_Day_is_as_told kV_Day_is_as_told dc_Day_is_as_told pm_Day_is_as_told cd_Day_is_as_told ct_Day_is_as_told : Value}
    {f_behind_lengths : Addr} {od_behind_lengths an_behind_lengths : Option Addr} {sl_behind_lengths : Array (Option Value)} {oc_behind_lengths kV_behind_lengths dc_behind_lengths pm_behind_lengths cd_behind_lengths ct_behind_lengths : Value}
    {f_Season_init : Addr} {od_Season_init an_Season_init : Option Addr} {sl_Season_init : Array (Option Value)} {oc_Season_init kV_Season_init dc_Season_init pm_Season_init cd_Season_init ct_Season_init : Value}
    {f_Season_begins : Addr} {od_Season_begins an_Season_begins : Option Addr} {sl_Season_begins : Array (Option Value)} {oc_Season_begins kV_Season_begins dc_Season_begins pm_Season_begins cd_Season_begins ct_Season_begins : Value}
    {f_Season_day : Addr} {od_Season_day an_Season_day : Option Addr} {sl_Season_day : Array (Option Value)} {oc_Season_day kV_Season_day dc_Season_day pm_Season_day cd_Season_day ct_Season_day : Value}
    {f_Season_drop : Addr} {od_Season_drop an_Season_drop : Option Addr} {sl_Season_drop : Array (Option Value)} {oc_Season_drop kV_Season_drop dc_Season_drop pm_Season_drop cd_Season_drop ct_Season_drop : Value}
    {f_Season_are_breaks : Addr} {od_Season_are_breaks an_Season_are_breaks : Option Addr} {sl_Season_are_breaks : Array (Option Value)} {oc_Season_are_breaks kV_Season_are_breaks dc_Season_are_breaks pm_Season_are_breaks cd_Season_are_breaks ct_Season_are_breaks : Value}
    {f_Season_ahead : Addr} {od_Season_ahead an_Season_ahead : Option Addr} {sl_Season_ahead : Array (Option Value)} {oc_Season_ahead kV_Season_ahead dc_Season_ahead pm_Season_ahead cd_Season_ahead ct_Season_ahead : Value}
    {f_Season_courses : Addr} {od_Season_courses an_Season_courses : Option Addr} {sl_Season_courses : Array (Option Value)} {oc_Season_courses kV_Season_courses dc_Season_courses pm_Season_courses cd_Season_courses ct_Season_courses : Value}
    {f_Season_follow : Addr} {od_Season_follow an_Season_follow : Option Addr} {sl_Season_follow : Array (Option Value)} {oc_Season_follow kV_Season_follow dc_Season_follow pm_Season_follow cd_Season_follow ct_Season_follow : Value}
    {f_Season_best : Addr} {od_Season_best an_Season_best : Option Addr} {sl_Season_best : Array (Option Value)} {oc_Season_best kV_Season_best dc_Season_best pm_Season_best cd_Season_best ct_Season_best : Value}
    {f_Season_evening : Addr} {od_Season_evening an_Season_evening : Option Addr} {sl_Season_evening : Array (Option Value)} {oc_Season_evening kV_Season_evening dc_Season_evening pm_Season_evening cd_Season_evening ct_Season_evening : Value}
    {f_Reader_init : Addr} {od_Reader_init an_Reader_init : Option Addr} {sl_Reader_init : Array (Option Value)} {oc_Reader_init kV_Reader_init dc_Reader_init pm_Reader_init cd_Reader_init ct_Reader_init : Value}
    {f_Reader_is_done : Addr} {od_Reader_is_done an_Reader_is_done : Option Addr} {sl_Reader_is_done : Array (Option Value)} {oc_Reader_is_done kV_Reader_is_done dc_Reader_is_done pm_Reader_is_done cd_Reader_is_done ct_Reader_is_done : Value}
    {f_Reader_take : Addr} {od_Reader_take an_Reader_take : Option Addr} {sl_Reader_take : Array (Option Value)} {oc_Reader_take kV_Reader_take dc_Reader_take pm_Reader_take cd_Reader_take ct_Reader_take : Value}
    {f_Reader_number : Addr} {od_Reader_number an_Reader_number : Option Addr} {sl_Reader_number : Array (Option Value)} {oc_Reader_number kV_Reader_number dc_Reader_number pm_Reader_number cd_Reader_number ct_Reader_number : Value}
    {f_Reader_row : Addr} {od_Reader_row an_Reader_row : Option Addr} {sl_Reader_row : Array (Option Value)} {oc_Reader_row kV_Reader_row dc_Reader_row pm_Reader_row cd_Reader_row ct_Reader_row : Value}
    {f_answer_begins : Addr} {od_answer_begins an_answer_begins : Option Addr} {sl_answer_begins : Array (Option Value)} {oc_answer_begins kV_answer_begins dc_answer_begins pm_answer_begins cd_answer_begins ct_answer_begins : Value}
    {f_answer_day : Addr} {od_answer_day an_answer_day : Option Addr} {sl_answer_day : Array (Option Value)} {oc_answer_day kV_answer_day dc_answer_day pm_answer_day cd_answer_day ct_answer_day : Value}
    {f_answer_evening : Addr} {od_answer_evening an_answer_evening : Option Addr} {sl_answer_evening : Array (Option Value)} {oc_answer_evening kV_answer_evening dc_answer_evening pm_answer_evening cd_answer_evening ct_answer_evening : Value}
    {f_answer_call : Addr} {od_answer_call an_answer_call : Option Addr} {sl_answer_call : Array (Option Value)} {oc_answer_call kV_answer_call dc_answer_call pm_answer_call cd_answer_call ct_answer_call : Value}
    {f_answers : Addr} {od_answers an_answers : Option Addr} {sl_answers : Array (Option Value)} {oc_answers kV_answers dc_answers pm_answers cd_answers ct_answers : Value}
    (b_all : PySem.W.nsIn K mainGlobals "all" = some none)
    (b_len : PySem.W.nsIn K mainGlobals "len" = some none)
    (b_list : PySem.W.nsIn K mainGlobals "list" = some none)
    (b_min : PySem.W.nsIn K mainGlobals "min" = some none)
    (b_range : PySem.W.nsIn K mainGlobals "range" = some none)
    (b_sum : PySem.W.nsIn K mainGlobals "sum" = some none)
    (b_zip : PySem.W.nsIn K mainGlobals "zip" = some none)
    (k_UP : PySem.W.nsIn K mainGlobals "UP" = some (some (.int (0) t_UP)))
    (k_RIGHT : PySem.W.nsIn K mainGlobals "RIGHT" = some (some (.int (1) t_RIGHT)))
    (k_DOWN : PySem.W.nsIn K mainGlobals "DOWN" = some (some (.int (2) t_DOWN)))
    (k_LEFT : PySem.W.nsIn K mainGlobals "LEFT" = some (some (.int (3) t_LEFT)))
    (k_NO_BREAK : PySem.W.nsIn K mainGlobals "NO_BREAK" = some (some (.int (0) t_NO_BREAK)))
    (k_BEGINS : PySem.W.nsIn K mainGlobals "BEGINS" = some (some (.int (0) t_BEGINS)))
    (k_DAY : PySem.W.nsIn K mainGlobals "DAY" = some (some (.int (1) t_DAY)))
    (k_DROP : PySem.W.nsIn K mainGlobals "DROP" = some (some (.int (2) t_DROP)))
    (k_FOLLOW : PySem.W.nsIn K mainGlobals "FOLLOW" = some (some (.int (3) t_FOLLOW)))
    (k_BEST : PySem.W.nsIn K mainGlobals "BEST" = some (some (.int (4) t_BEST)))
    (k_EVENING : PySem.W.nsIn K mainGlobals "EVENING" = some (some (.int (5) t_EVENING)))
    (k_NOT_AS_TOLD : PySem.W.nsIn K mainGlobals "NOT_AS_TOLD" = some (some (.int (-1) t_NOT_AS_TOLD)))
    (k_NO_DAYS : PySem.W.nsIn K mainGlobals "NO_DAYS" = some (some (.int (-4) t_NO_DAYS)))
    (k_ENOUGH_DAYS : PySem.W.nsIn K mainGlobals "ENOUGH_DAYS" = some (some (.int (-5) t_ENOUGH_DAYS)))
    (k_NOT_CUT_THERE : PySem.W.nsIn K mainGlobals "NOT_CUT_THERE" = some (some (.int (-6) t_NOT_CUT_THERE)))
    (k_MOST_IN_A_ROW : PySem.W.nsIn K mainGlobals "MOST_IN_A_ROW" = some (some (.int (4) t_MOST_IN_A_ROW)))
    (k_MOST_ROWS : PySem.W.nsIn K mainGlobals "MOST_ROWS" = some (some (.int (4) t_MOST_ROWS)))
    (k_SLOWEST : PySem.W.nsIn K mainGlobals "SLOWEST" = some (some (.int (60) t_SLOWEST)))
    (k_MOST_WORTH : PySem.W.nsIn K mainGlobals "MOST_WORTH" = some (some (.int (1000) t_MOST_WORTH)))
    (k_STRONGEST_WIND : PySem.W.nsIn K mainGlobals "STRONGEST_WIND" = some (some (.int (9) t_STRONGEST_WIND)))
    (k_MOST_MINUTES : PySem.W.nsIn K mainGlobals "MOST_MINUTES" = some (some (.int (100000) t_MOST_MINUTES)))
    (k_MOST_DAYS : PySem.W.nsIn K mainGlobals "MOST_DAYS" = some (some (.int (3) t_MOST_DAYS)))
    (k_DIRECTIONS : PySem.W.nsIn K mainGlobals "DIRECTIONS" = some (some (.int (4) t_DIRECTIONS)))
    (aC_Evening : PySem.W.nsIn K mainGlobals "Evening" = some (some (.ref C_Evening)))
    (aC_Course : PySem.W.nsIn K mainGlobals "Course" = some (some (.ref C_Course)))
    (aC_Row : PySem.W.nsIn K mainGlobals "Row" = some (some (.ref C_Row)))
    (aC_Day : PySem.W.nsIn K mainGlobals "Day" = some (some (.ref C_Day)))
    (aC_Season : PySem.W.nsIn K mainGlobals "Season" = some (some (.ref C_Season)))
    (aC_Reader : PySem.W.nsIn K mainGlobals "Reader" = some (some (.ref C_Reader)))
    (aC_MayNotBeCut : PySem.W.nsIn K mainGlobals "MayNotBeCut" = some (some (.ref C_MayNotBeCut)))
    (e_MayNotBeCut : PySem.W.excIn K C_MayNotBeCut vErr "ValueError.__new__" = true)
    (a_break_at : PySem.W.nsIn K mainGlobals "break_at" = some (some (.ref f_break_at)))
    (l_break_at : K.lookup f_break_at = some ⟨oc_break_at, od_break_at, .func (PySem.W.fnOf "break_at" "break_at" (defArgs st_break_at) (defBody st_break_at) (defScope st_break_at) .none kV_break_at dc_break_at pm_break_at an_break_at cd_break_at ct_break_at), sl_break_at⟩)
    (c_break_at : PySem.W.codeIn K cd_break_at "break_at" = true)
    (p_break_at : PySem.W.keepIn K (.ref f_break_at) = true)
    (a_place_of : PySem.W.nsIn K mainGlobals "place_of" = some (some (.ref f_place_of)))
    (l_place_of : K.lookup f_place_of = some ⟨oc_place_of, od_place_of, .func (PySem.W.fnOf "place_of" "place_of" (defArgs st_place_of) (defBody st_place_of) (defScope st_place_of) .none kV_place_of dc_place_of pm_place_of an_place_of cd_place_of ct_place_of), sl_place_of⟩)
    (c_place_of : PySem.W.codeIn K cd_place_of "place_of" = true)
    (p_place_of : PySem.W.keepIn K (.ref f_place_of) = true)
    (a_neighbours : PySem.W.nsIn K mainGlobals "neighbours" = some (some (.ref f_neighbours)))
    (l_neighbours : K.lookup f_neighbours = some ⟨oc_neighbours, od_neighbours, .func (PySem.W.fnOf "neighbours" "neighbours" (defArgs st_neighbours) (defBody st_neighbours) (defScope st_neighbours) .none kV_neighbours dc_neighbours pm_neighbours an_neighbours cd_neighbours ct_neighbours), sl_neighbours⟩)
    (c_neighbours : PySem.W.codeIn K cd_neighbours "neighbours" = true)
    (p_neighbours : PySem.W.keepIn K (.ref f_neighbours) = true)
    (a_ways_from : PySem.W.nsIn K mainGlobals "ways_from" = some (some (.ref f_ways_from)))
    (l_ways_from : K.lookup f_ways_from = some ⟨oc_ways_from, od_ways_from, .func (PySem.W.fnOf "ways_from" "ways_from" (defArgs st_ways_from) (defBody st_ways_from) (defScope st_ways_from) .none kV_ways_from dc_ways_from pm_ways_from an_ways_from cd_ways_from ct_ways_from), sl_ways_from⟩)
    (c_ways_from : PySem.W.codeIn K cd_ways_from "ways_from" = true)
    (p_ways_from : PySem.W.keepIn K (.ref f_ways_from) = true)
    (a_Evening_init : PySem.W.findIn K (.ref C_Evening) "__init__" = some (some (.ref f_Evening_init)))
    (i_Evening_init : PySem.W.isFn K (.ref f_Evening_init) = true)
    (l_Evening_init : K.lookup f_Evening_init = some ⟨oc_Evening_init, od_Evening_init, .func (PySem.W.fnOf "__init__" "Evening.__init__" (defArgs st_Evening_init) (defBody st_Evening_init) (defScope st_Evening_init) .none kV_Evening_init dc_Evening_init pm_Evening_init an_Evening_init cd_Evening_init ct_Evening_init), sl_Evening_init⟩)
    (c_Evening_init : PySem.W.codeIn K cd_Evening_init "Evening.__init__" = true)
    (p_Evening_init : PySem.W.keepIn K (.ref f_Evening_init) = true)
    (a_Evening_may_be_cut : PySem.W.findIn K (.ref C_Evening) "may_be_cut" = some (some (.ref f_Evening_may_be_cut)))
    (i_Evening_may_be_cut : PySem.W.isFn K (.ref f_Evening_may_be_cut) = true)
    (l_Evening_may_be_cut : K.lookup f_Evening_may_be_cut = some ⟨oc_Evening_may_be_cut, od_Evening_may_be_cut, .func (PySem.W.fnOf "may_be_cut" "Evening.may_be_cut" (defArgs st_Evening_may_be_cut) (defBody st_Evening_may_be_cut) (defScope st_Evening_may_be_cut) .none kV_Evening_may_be_cut dc_Evening_may_be_cut pm_Evening_may_be_cut an_Evening_may_be_cut cd_Evening_may_be_cut ct_Evening_may_be_cut), sl_Evening_may_be_cut⟩)
    (c_Evening_may_be_cut : PySem.W.codeIn K cd_Evening_may_be_cut "Evening.may_be_cut" = true)
    (p_Evening_may_be_cut : PySem.W.keepIn K (.ref f_Evening_may_be_cut) = true)
    (a_Evening_could_burn : PySem.W.findIn K (.ref C_Evening) "could_burn" = some (some (.ref f_Evening_could_burn)))
    (i_Evening_could_burn : PySem.W.isFn K (.ref f_Evening_could_burn) = true)
    (l_Evening_could_burn : K.lookup f_Evening_could_burn = some ⟨oc_Evening_could_burn, od_Evening_could_burn, .func (PySem.W.fnOf "could_burn" "Evening.could_burn" (defArgs st_Evening_could_burn) (defBody st_Evening_could_burn) (defScope st_Evening_could_burn) .none kV_Evening_could_burn dc_Evening_could_burn pm_Evening_could_burn an_Evening_could_burn cd_Evening_could_burn ct_Evening_could_burn), sl_Evening_could_burn⟩)
    (c_Evening_could_burn : PySem.W.codeIn K cd_Evening_could_burn "Evening.could_burn" = true)
    (p_Evening_could_burn : PySem.W.keepIn K (.ref f_Evening_could_burn) = true)
    (a_evening_ahead_of_all : PySem.W.nsIn K mainGlobals "evening_ahead_of_all" = some (some (.ref f_evening_ahead_of_all)))
    (l_evening_ahead_of_all : K.lookup f_evening_ahead_of_all = some ⟨oc_evening_ahead_of_all, od_evening_ahead_of_all, .func (PySem.W.fnOf "evening_ahead_of_all" "evening_ahead_of_all" (defArgs st_evening_ahead_of_all) (defBody st_evening_ahead_of_all) (defScope st_evening_ahead_of_all) .none kV_evening_ahead_of_all dc_evening_ahead_of_all pm_evening_ahead_of_all an_evening_ahead_of_all cd_evening_ahead_of_all ct_evening_ahead_of_all), sl_evening_ahead_of_all⟩)
    (c_evening_ahead_of_all : PySem.W.codeIn K cd_evening_ahead_of_all "evening_ahead_of_all" = true)
    (p_evening_ahead_of_all : PySem.W.keepIn K (.ref f_evening_ahead_of_all) = true)
    (a_Course_init : PySem.W.findIn K (.ref C_Course) "__init__" = some (some (.ref f_Course_init)))
    (i_Course_init : PySem.W.isFn K (.ref f_Course_init) = true)
    (l_Course_init : K.lookup f_Course_init = some ⟨oc_Course_init, od_Course_init, .func (PySem.W.fnOf "__init__" "Course.__init__" (defArgs st_Course_init) (defBody st_Course_init) (defScope st_Course_init) .none kV_Course_init dc_Course_init pm_Course_init an_Course_init cd_Course_init ct_Course_init), sl_Course_init⟩)
    (c_Course_init : PySem.W.codeIn K cd_Course_init "Course.__init__" = true)
    (p_Course_init : PySem.W.keepIn K (.ref f_Course_init) = true)
    (a_Course_worth_together : PySem.W.findIn K (.ref C_Course) "worth_together" = some (some (.ref f_Course_worth_together)))
    (i_Course_worth_together : PySem.W.isFn K (.ref f_Course_worth_together) = true)
    (l_Course_worth_together : K.lookup f_Course_worth_together = some ⟨oc_Course_worth_together, od_Course_worth_together, .func (PySem.W.fnOf "worth_together" "Course.worth_together" (defArgs st_Course_worth_together) (defBody st_Course_worth_together) (defScope st_Course_worth_together) .none kV_Course_worth_together dc_Course_worth_together pm_Course_worth_together an_Course_worth_together cd_Course_worth_together ct_Course_worth_together), sl_Course_worth_together⟩)
    (c_Course_worth_together : PySem.W.codeIn K cd_Course_worth_together "Course.worth_together" = true)
    (p_Course_worth_together : PySem.W.keepIn K (.ref f_Course_worth_together) = true)
    (a_Course_times : PySem.W.findIn K (.ref C_Course) "times" = some (some (.ref f_Course_times)))
    (i_Course_times : PySem.W.isFn K (.ref f_Course_times) = true)
    (l_Course_times : K.lookup f_Course_times = some ⟨oc_Course_times, od_Course_times, .func (PySem.W.fnOf "times" "Course.times" (defArgs st_Course_times) (defBody st_Course_times) (defScope st_Course_times) .none kV_Course_times dc_Course_times pm_Course_times an_Course_times cd_Course_times ct_Course_times), sl_Course_times⟩)
    (c_Course_times : PySem.W.codeIn K cd_Course_times "Course.times" = true)
    (p_Course_times : PySem.W.keepIn K (.ref f_Course_times) = true)
    (a_Course_evening_with : PySem.W.findIn K (.ref C_Course) "evening_with" = some (some (.ref f_Course_evening_with)))
    (i_Course_evening_with : PySem.W.isFn K (.ref f_Course_evening_with) = true)
    (l_Course_evening_with : K.lookup f_Course_evening_with = some ⟨oc_Course_evening_with, od_Course_evening_with, .func (PySem.W.fnOf "evening_with" "Course.evening_with" (defArgs st_Course_evening_with) (defBody st_Course_evening_with) (defScope st_Course_evening_with) .none kV_Course_evening_with dc_Course_evening_with pm_Course_evening_with an_Course_evening_with cd_Course_evening_with ct_Course_evening_with), sl_Course_evening_with⟩)
    (c_Course_evening_with : PySem.W.codeIn K cd_Course_evening_with "Course.evening_with" = true)
    (p_Course_evening_with : PySem.W.keepIn K (.ref f_Course_evening_with) = true)
    (a_follow_breaks : PySem.W.nsIn K mainGlobals "follow_breaks" = some (some (.ref f_follow_breaks)))
    (l_follow_breaks : K.lookup f_follow_breaks = some ⟨oc_follow_breaks, od_follow_breaks, .func (PySem.W.fnOf "follow_breaks" "follow_breaks" (defArgs st_follow_breaks) (defBody st_follow_breaks) (defScope st_follow_breaks) .none kV_follow_breaks dc_follow_breaks pm_follow_breaks an_follow_breaks cd_follow_breaks ct_follow_breaks), sl_follow_breaks⟩)
    (c_follow_breaks : PySem.W.codeIn K cd_follow_breaks "follow_breaks" = true)
    (p_follow_breaks : PySem.W.keepIn K (.ref f_follow_breaks) = true)
    (a_Row_init : PySem.W.findIn K (.ref C_Row) "__init__" = some (some (.ref f_Row_init)))
    (i_Row_init : PySem.W.isFn K (.ref f_Row_init) = true)
    (l_Row_init : K.lookup f_Row_init = some ⟨oc_Row_init, od_Row_init, .func (PySem.W.fnOf "__init__" "Row.__init__" (defArgs st_Row_init) (defBody st_Row_init) (defScope st_Row_init) .none kV_Row_init dc_Row_init pm_Row_init an_Row_init cd_Row_init ct_Row_init), sl_Row_init⟩)
    (c_Row_init : PySem.W.codeIn K cd_Row_init "Row.__init__" = true)
    (p_Row_init : PySem.W.keepIn K (.ref f_Row_init) = true)
    (a_Row_longer_by : PySem.W.findIn K (.ref C_Row) "longer_by" = some (some (.ref f_Row_longer_by)))
    (i_Row_longer_by : PySem.W.isFn K (.ref f_Row_longer_by) = true)
    (l_Row_longer_by : K.lookup f_Row_longer_by = some ⟨oc_Row_longer_by, od_Row_longer_by, .func (PySem.W.fnOf "longer_by" "Row.longer_by" (defArgs st_Row_longer_by) (defBody st_Row_longer_by) (defScope st_Row_longer_by) .none kV_Row_longer_by dc_Row_longer_by pm_Row_longer_by an_Row_longer_by cd_Row_longer_by ct_Row_longer_by), sl_Row_longer_by⟩)
    (c_Row_longer_by : PySem.W.codeIn K cd_Row_longer_by "Row.longer_by" = true)
    (p_Row_longer_by : PySem.W.keepIn K (.ref f_Row_longer_by) = true)
    (a_all_rows : PySem.W.nsIn K mainGlobals "all_rows" = some (some (.ref f_all_rows)))
    (l_all_rows : K.lookup f_all_rows = some ⟨oc_all_rows, od_all_rows, .func (PySem.W.fnOf "all_rows" "all_rows" (defArgs st_all_rows) (defBody st_all_rows) (defScope st_all_rows) .none kV_all_rows dc_all_rows pm_all_rows an_all_rows cd_all_rows ct_all_rows), sl_all_rows⟩)
    (c_all_rows : PySem.W.codeIn K cd_all_rows "all_rows" = true)
    (p_all_rows : PySem.W.keepIn K (.ref f_all_rows) = true)
    (a_best_rows : PySem.W.nsIn K mainGlobals "best_rows" = some (some (.ref f_best_rows)))
    (l_best_rows : K.lookup f_best_rows = some ⟨oc_best_rows, od_best_rows, .func (PySem.W.fnOf "best_rows" "best_rows" (defArgs st_best_rows) (defBody st_best_rows) (defScope st_best_rows) .none kV_best_rows dc_best_rows pm_best_rows an_best_rows cd_best_rows ct_best_rows), sl_best_rows⟩)
    (c_best_rows : PySem.W.codeIn K cd_best_rows "best_rows" = true)
    (p_best_rows : PySem.W.keepIn K (.ref f_best_rows) = true)
    (a_all_between : PySem.W.nsIn K mainGlobals "all_between" = some (some (.ref f_all_between)))
    (l_all_between : K.lookup f_all_between = some ⟨oc_all_between, od_all_between, .func (PySem.W.fnOf "all_between" "all_between" (defArgs st_all_between) (defBody st_all_between) (defScope st_all_between) .none kV_all_between dc_all_between pm_all_between an_all_between cd_all_between ct_all_between), sl_all_between⟩)
    (c_all_between : PySem.W.codeIn K cd_all_between "all_between" = true)
    (p_all_between : PySem.W.keepIn K (.ref f_all_between) = true)
    (a_is_rising : PySem.W.nsIn K mainGlobals "is_rising" = some (some (.ref f_is_rising)))
    (l_is_rising : K.lookup f_is_rising = some ⟨oc_is_rising, od_is_rising, .func (PySem.W.fnOf "is_rising" "is_rising" (defArgs st_is_rising) (defBody st_is_rising) (defScope st_is_rising) .none kV_is_rising dc_is_rising pm_is_rising an_is_rising cd_is_rising ct_is_rising), sl_is_rising⟩)
    (c_is_rising : PySem.W.codeIn K cd_is_rising "is_rising" = true)
    (p_is_rising : PySem.W.keepIn K (.ref f_is_rising) = true)
    (a_are_full_rows : PySem.W.nsIn K mainGlobals "are_full_rows" = some (some (.ref f_are_full_rows)))
    (l_are_full_rows : K.lookup f_are_full_rows = some ⟨oc_are_full_rows, od_are_full_rows, .func (PySem.W.fnOf "are_full_rows" "are_full_rows" (defArgs st_are_full_rows) (defBody st_are_full_rows) (defScope st_are_full_rows) .none kV_are_full_rows dc_are_full_rows pm_are_full_rows an_are_full_rows cd_are_full_rows ct_are_full_rows), sl_are_full_rows⟩)
    (c_are_full_rows : PySem.W.codeIn K cd_are_full_rows "are_full_rows" = true)
    (p_are_full_rows : PySem.W.keepIn K (.ref f_are_full_rows) = true)
    (a_slowness_of : PySem.W.nsIn K mainGlobals "slowness_of" = some (some (.ref f_slowness_of)))
    (l_slowness_of : K.lookup f_slowness_of = some ⟨oc_slowness_of, od_slowness_of, .func (PySem.W.fnOf "slowness_of" "slowness_of" (defArgs st_slowness_of) (defBody st_slowness_of) (defScope st_slowness_of) .none kV_slowness_of dc_slowness_of pm_slowness_of an_slowness_of cd_slowness_of ct_slowness_of), sl_slowness_of⟩)
    (c_slowness_of : PySem.W.codeIn K cd_slowness_of "slowness_of" = true)
    (p_slowness_of : PySem.W.keepIn K (.ref f_slowness_of) = true)
    (a_worth_of : PySem.W.nsIn K mainGlobals "worth_of" = some (some (.ref f_worth_of)))
    (l_worth_of : K.lookup f_worth_of = some ⟨oc_worth_of, od_worth_of, .func (PySem.W.fnOf "worth_of" "worth_of" (defArgs st_worth_of) (defBody st_worth_of) (defScope st_worth_of) .none kV_worth_of dc_worth_of pm_worth_of an_worth_of cd_worth_of ct_worth_of), sl_worth_of⟩)
    (c_worth_of : PySem.W.codeIn K cd_worth_of "worth_of" = true)
    (p_worth_of : PySem.W.keepIn K (.ref f_worth_of) = true)
    (a_is_forest : PySem.W.nsIn K mainGlobals "is_forest" = some (some (.ref f_is_forest)))
    (l_is_forest : K.lookup f_is_forest = some ⟨oc_is_forest, od_is_forest, .func (PySem.W.fnOf "is_forest" "is_forest" (defArgs st_is_forest) (defBody st_is_forest) (defScope st_is_forest) .none kV_is_forest dc_is_forest pm_is_forest an_is_forest cd_is_forest ct_is_forest), sl_is_forest⟩)
    (c_is_forest : PySem.W.codeIn K cd_is_forest "is_forest" = true)
    (p_is_forest : PySem.W.keepIn K (.ref f_is_forest) = true)
    (a_Day_init : PySem.W.findIn K (.ref C_Day) "__init__" = some (some (.ref f_Day_init)))
    (i_Day_init : PySem.W.isFn K (.ref f_Day_init) = true)
    (l_Day_init : K.lookup f_Day_init = some ⟨oc_Day_init, od_Day_init, .func (PySem.W.fnOf "__init__" "Day.__init__" (defArgs st_Day_init) (defBody st_Day_init) (defScope st_Day_init) .none kV_Day_init dc_Day_init pm_Day_init an_Day_init cd_Day_init ct_Day_init), sl_Day_init⟩)
    (c_Day_init : PySem.W.codeIn K cd_Day_init "Day.__init__" = true)
    (p_Day_init : PySem.W.keepIn K (.ref f_Day_init) = true)
    (a_Day_is_as_told : PySem.W.findIn K (.ref C_Day) "is_as_told" = some (some (.ref f_Day_is_as_told)))
    (i_Day_is_as_told : PySem.W.isFn K (.ref f_Day_is_as_told) = true)
    (l_Day_is_as_told : K.lookup f_Day_is_as_told = some ⟨oc_Day_is_as_told, od_Day_is_as_told, .func (PySem.W.fnOf "is_as_told" "Day.is_as_told" (defArgs st_Day_is_as_told) (defBody st_Day_is_as_told) (defScope st_Day_is_as_told) .none kV_Day_is_as_told dc_Day_is_as_told pm_Day_is_as_told an_Day_is_as_told cd_Day_is_as_told ct_Day_is_as_told), sl_Day_is_as_told⟩)
    (c_Day_is_as_told : PySem.W.codeIn K cd_Day_is_as_told "Day.is_as_told" = true)
    (p_Day_is_as_told : PySem.W.keepIn K (.ref f_Day_is_as_told) = true)
    (a_behind_lengths : PySem.W.nsIn K mainGlobals "behind_lengths" = some (some (.ref f_behind_lengths)))
    (l_behind_lengths : K.lookup f_behind_lengths = some ⟨oc_behind_lengths, od_behind_lengths, .func (PySem.W.fnOf "behind_lengths" "behind_lengths" (defArgs st_behind_lengths) (defBody st_behind_lengths) (defScope st_behind_lengths) .none kV_behind_lengths dc_behind_lengths pm_behind_lengths an_behind_lengths cd_behind_lengths ct_behind_lengths), sl_behind_lengths⟩)
    (c_behind_lengths : PySem.W.codeIn K cd_behind_lengths "behind_lengths" = true)
    (p_behind_lengths : PySem.W.keepIn K (.ref f_behind_lengths) = true)
    (a_Season_init : PySem.W.findIn K (.ref C_Season) "__init__" = some (some (.ref f_Season_init)))
    (i_Season_init : PySem.W.isFn K (.ref f_Season_init) = true)
    (l_Season_init : K.lookup f_Season_init = some ⟨oc_Season_init, od_Season_init, .func (PySem.W.fnOf "__init__" "Season.__init__" (defArgs st_Season_init) (defBody st_Season_init) (defScope st_Season_init) .none kV_Season_init dc_Season_init pm_Season_init an_Season_init cd_Season_init ct_Season_init), sl_Season_init⟩)
    (c_Season_init : PySem.W.codeIn K cd_Season_init "Season.__init__" = true)
    (p_Season_init : PySem.W.keepIn K (.ref f_Season_init) = true)
    (a_Season_begins : PySem.W.findIn K (.ref C_Season) "begins" = some (some (.ref f_Season_begins)))
    (i_Season_begins : PySem.W.isFn K (.ref f_Season_begins) = true)
    (l_Season_begins : K.lookup f_Season_begins = some ⟨oc_Season_begins, od_Season_begins, .func (PySem.W.fnOf "begins" "Season.begins" (defArgs st_Season_begins) (defBody st_Season_begins) (defScope st_Season_begins) .none kV_Season_begins dc_Season_begins pm_Season_begins an_Season_begins cd_Season_begins ct_Season_begins), sl_Season_begins⟩)
    (c_Season_begins : PySem.W.codeIn K cd_Season_begins "Season.begins" = true)
    (p_Season_begins : PySem.W.keepIn K (.ref f_Season_begins) = true)
    (a_Season_day : PySem.W.findIn K (.ref C_Season) "day" = some (some (.ref f_Season_day)))
    (i_Season_day : PySem.W.isFn K (.ref f_Season_day) = true)
    (l_Season_day : K.lookup f_Season_day = some ⟨oc_Season_day, od_Season_day, .func (PySem.W.fnOf "day" "Season.day" (defArgs st_Season_day) (defBody st_Season_day) (defScope st_Season_day) .none kV_Season_day dc_Season_day pm_Season_day an_Season_day cd_Season_day ct_Season_day), sl_Season_day⟩)
    (c_Season_day : PySem.W.codeIn K cd_Season_day "Season.day" = true)
    (p_Season_day : PySem.W.keepIn K (.ref f_Season_day) = true)
    (a_Season_drop : PySem.W.findIn K (.ref C_Season) "drop" = some (some (.ref f_Season_drop)))
    (i_Season_drop : PySem.W.isFn K (.ref f_Season_drop) = true)
    (l_Season_drop : K.lookup f_Season_drop = some ⟨oc_Season_drop, od_Season_drop, .func (PySem.W.fnOf "drop" "Season.drop" (defArgs st_Season_drop) (defBody st_Season_drop) (defScope st_Season_drop) .none kV_Season_drop dc_Season_drop pm_Season_drop an_Season_drop cd_Season_drop ct_Season_drop), sl_Season_drop⟩)
    (c_Season_drop : PySem.W.codeIn K cd_Season_drop "Season.drop" = true)
    (p_Season_drop : PySem.W.keepIn K (.ref f_Season_drop) = true)
    (a_Season_are_breaks : PySem.W.findIn K (.ref C_Season) "are_breaks" = some (some (.ref f_Season_are_breaks)))
    (i_Season_are_breaks : PySem.W.isFn K (.ref f_Season_are_breaks) = true)
    (l_Season_are_breaks : K.lookup f_Season_are_breaks = some ⟨oc_Season_are_breaks, od_Season_are_breaks, .func (PySem.W.fnOf "are_breaks" "Season.are_breaks" (defArgs st_Season_are_breaks) (defBody st_Season_are_breaks) (defScope st_Season_are_breaks) .none kV_Season_are_breaks dc_Season_are_breaks pm_Season_are_breaks an_Season_are_breaks cd_Season_are_breaks ct_Season_are_breaks), sl_Season_are_breaks⟩)
    (c_Season_are_breaks : PySem.W.codeIn K cd_Season_are_breaks "Season.are_breaks" = true)
    (p_Season_are_breaks : PySem.W.keepIn K (.ref f_Season_are_breaks) = true)
    (a_Season_ahead : PySem.W.findIn K (.ref C_Season) "ahead" = some (some (.ref f_Season_ahead)))
    (i_Season_ahead : PySem.W.isFn K (.ref f_Season_ahead) = true)
    (l_Season_ahead : K.lookup f_Season_ahead = some ⟨oc_Season_ahead, od_Season_ahead, .func (PySem.W.fnOf "ahead" "Season.ahead" (defArgs st_Season_ahead) (defBody st_Season_ahead) (defScope st_Season_ahead) .none kV_Season_ahead dc_Season_ahead pm_Season_ahead an_Season_ahead cd_Season_ahead ct_Season_ahead), sl_Season_ahead⟩)
    (c_Season_ahead : PySem.W.codeIn K cd_Season_ahead "Season.ahead" = true)
    (p_Season_ahead : PySem.W.keepIn K (.ref f_Season_ahead) = true)
    (a_Season_courses : PySem.W.findIn K (.ref C_Season) "courses" = some (some (.ref f_Season_courses)))
    (i_Season_courses : PySem.W.isFn K (.ref f_Season_courses) = true)
    (l_Season_courses : K.lookup f_Season_courses = some ⟨oc_Season_courses, od_Season_courses, .func (PySem.W.fnOf "courses" "Season.courses" (defArgs st_Season_courses) (defBody st_Season_courses) (defScope st_Season_courses) .none kV_Season_courses dc_Season_courses pm_Season_courses an_Season_courses cd_Season_courses ct_Season_courses), sl_Season_courses⟩)
    (c_Season_courses : PySem.W.codeIn K cd_Season_courses "Season.courses" = true)
    (p_Season_courses : PySem.W.keepIn K (.ref f_Season_courses) = true)
    (a_Season_follow : PySem.W.findIn K (.ref C_Season) "follow" = some (some (.ref f_Season_follow)))
    (i_Season_follow : PySem.W.isFn K (.ref f_Season_follow) = true)
    (l_Season_follow : K.lookup f_Season_follow = some ⟨oc_Season_follow, od_Season_follow, .func (PySem.W.fnOf "follow" "Season.follow" (defArgs st_Season_follow) (defBody st_Season_follow) (defScope st_Season_follow) .none kV_Season_follow dc_Season_follow pm_Season_follow an_Season_follow cd_Season_follow ct_Season_follow), sl_Season_follow⟩)
    (c_Season_follow : PySem.W.codeIn K cd_Season_follow "Season.follow" = true)
    (p_Season_follow : PySem.W.keepIn K (.ref f_Season_follow) = true)
    (a_Season_best : PySem.W.findIn K (.ref C_Season) "best" = some (some (.ref f_Season_best)))
    (i_Season_best : PySem.W.isFn K (.ref f_Season_best) = true)
    (l_Season_best : K.lookup f_Season_best = some ⟨oc_Season_best, od_Season_best, .func (PySem.W.fnOf "best" "Season.best" (defArgs st_Season_best) (defBody st_Season_best) (defScope st_Season_best) .none kV_Season_best dc_Season_best pm_Season_best an_Season_best cd_Season_best ct_Season_best), sl_Season_best⟩)
    (c_Season_best : PySem.W.codeIn K cd_Season_best "Season.best" = true)
    (p_Season_best : PySem.W.keepIn K (.ref f_Season_best) = true)
    (a_Season_evening : PySem.W.findIn K (.ref C_Season) "evening" = some (some (.ref f_Season_evening)))
    (i_Season_evening : PySem.W.isFn K (.ref f_Season_evening) = true)
    (l_Season_evening : K.lookup f_Season_evening = some ⟨oc_Season_evening, od_Season_evening, .func (PySem.W.fnOf "evening" "Season.evening" (defArgs st_Season_evening) (defBody st_Season_evening) (defScope st_Season_evening) .none kV_Season_evening dc_Season_evening pm_Season_evening an_Season_evening cd_Season_evening ct_Season_evening), sl_Season_evening⟩)
    (c_Season_evening : PySem.W.codeIn K cd_Season_evening "Season.evening" = true)
    (p_Season_evening : PySem.W.keepIn K (.ref f_Season_evening) = true)
    (a_Reader_init : PySem.W.findIn K (.ref C_Reader) "__init__" = some (some (.ref f_Reader_init)))
    (i_Reader_init : PySem.W.isFn K (.ref f_Reader_init) = true)
    (l_Reader_init : K.lookup f_Reader_init = some ⟨oc_Reader_init, od_Reader_init, .func (PySem.W.fnOf "__init__" "Reader.__init__" (defArgs st_Reader_init) (defBody st_Reader_init) (defScope st_Reader_init) .none kV_Reader_init dc_Reader_init pm_Reader_init an_Reader_init cd_Reader_init ct_Reader_init), sl_Reader_init⟩)
    (c_Reader_init : PySem.W.codeIn K cd_Reader_init "Reader.__init__" = true)
    (p_Reader_init : PySem.W.keepIn K (.ref f_Reader_init) = true)
    (a_Reader_is_done : PySem.W.findIn K (.ref C_Reader) "is_done" = some (some (.ref f_Reader_is_done)))
    (i_Reader_is_done : PySem.W.isFn K (.ref f_Reader_is_done) = true)
    (l_Reader_is_done : K.lookup f_Reader_is_done = some ⟨oc_Reader_is_done, od_Reader_is_done, .func (PySem.W.fnOf "is_done" "Reader.is_done" (defArgs st_Reader_is_done) (defBody st_Reader_is_done) (defScope st_Reader_is_done) .none kV_Reader_is_done dc_Reader_is_done pm_Reader_is_done an_Reader_is_done cd_Reader_is_done ct_Reader_is_done), sl_Reader_is_done⟩)
    (c_Reader_is_done : PySem.W.codeIn K cd_Reader_is_done "Reader.is_done" = true)
    (p_Reader_is_done : PySem.W.keepIn K (.ref f_Reader_is_done) = true)
    (a_Reader_take : PySem.W.findIn K (.ref C_Reader) "take" = some (some (.ref f_Reader_take)))
    (i_Reader_take : PySem.W.isFn K (.ref f_Reader_take) = true)
    (l_Reader_take : K.lookup f_Reader_take = some ⟨oc_Reader_take, od_Reader_take, .func (PySem.W.fnOf "take" "Reader.take" (defArgs st_Reader_take) (defBody st_Reader_take) (defScope st_Reader_take) .none kV_Reader_take dc_Reader_take pm_Reader_take an_Reader_take cd_Reader_take ct_Reader_take), sl_Reader_take⟩)
    (c_Reader_take : PySem.W.codeIn K cd_Reader_take "Reader.take" = true)
    (p_Reader_take : PySem.W.keepIn K (.ref f_Reader_take) = true)
    (a_Reader_number : PySem.W.findIn K (.ref C_Reader) "number" = some (some (.ref f_Reader_number)))
    (i_Reader_number : PySem.W.isFn K (.ref f_Reader_number) = true)
    (l_Reader_number : K.lookup f_Reader_number = some ⟨oc_Reader_number, od_Reader_number, .func (PySem.W.fnOf "number" "Reader.number" (defArgs st_Reader_number) (defBody st_Reader_number) (defScope st_Reader_number) .none kV_Reader_number dc_Reader_number pm_Reader_number an_Reader_number cd_Reader_number ct_Reader_number), sl_Reader_number⟩)
    (c_Reader_number : PySem.W.codeIn K cd_Reader_number "Reader.number" = true)
    (p_Reader_number : PySem.W.keepIn K (.ref f_Reader_number) = true)
    (a_Reader_row : PySem.W.findIn K (.ref C_Reader) "row" = some (some (.ref f_Reader_row)))
    (i_Reader_row : PySem.W.isFn K (.ref f_Reader_row) = true)
    (l_Reader_row : K.lookup f_Reader_row = some ⟨oc_Reader_row, od_Reader_row, .func (PySem.W.fnOf "row" "Reader.row" (defArgs st_Reader_row) (defBody st_Reader_row) (defScope st_Reader_row) .none kV_Reader_row dc_Reader_row pm_Reader_row an_Reader_row cd_Reader_row ct_Reader_row), sl_Reader_row⟩)
    (c_Reader_row : PySem.W.codeIn K cd_Reader_row "Reader.row" = true)
    (p_Reader_row : PySem.W.keepIn K (.ref f_Reader_row) = true)
    (a_answer_begins : PySem.W.nsIn K mainGlobals "answer_begins" = some (some (.ref f_answer_begins)))
    (l_answer_begins : K.lookup f_answer_begins = some ⟨oc_answer_begins, od_answer_begins, .func (PySem.W.fnOf "answer_begins" "answer_begins" (defArgs st_answer_begins) (defBody st_answer_begins) (defScope st_answer_begins) .none kV_answer_begins dc_answer_begins pm_answer_begins an_answer_begins cd_answer_begins ct_answer_begins), sl_answer_begins⟩)
    (c_answer_begins : PySem.W.codeIn K cd_answer_begins "answer_begins" = true)
    (p_answer_begins : PySem.W.keepIn K (.ref f_answer_begins) = true)
    (a_answer_day : PySem.W.nsIn K mainGlobals "answer_day" = some (some (.ref f_answer_day)))
    (l_answer_day : K.lookup f_answer_day = some ⟨oc_answer_day, od_answer_day, .func (PySem.W.fnOf "answer_day" "answer_day" (defArgs st_answer_day) (defBody st_answer_day) (defScope st_answer_day) .none kV_answer_day dc_answer_day pm_answer_day an_answer_day cd_answer_day ct_answer_day), sl_answer_day⟩)
    (c_answer_day : PySem.W.codeIn K cd_answer_day "answer_day" = true)
    (p_answer_day : PySem.W.keepIn K (.ref f_answer_day) = true)
    (a_answer_evening : PySem.W.nsIn K mainGlobals "answer_evening" = some (some (.ref f_answer_evening)))
    (l_answer_evening : K.lookup f_answer_evening = some ⟨oc_answer_evening, od_answer_evening, .func (PySem.W.fnOf "answer_evening" "answer_evening" (defArgs st_answer_evening) (defBody st_answer_evening) (defScope st_answer_evening) .none kV_answer_evening dc_answer_evening pm_answer_evening an_answer_evening cd_answer_evening ct_answer_evening), sl_answer_evening⟩)
    (c_answer_evening : PySem.W.codeIn K cd_answer_evening "answer_evening" = true)
    (p_answer_evening : PySem.W.keepIn K (.ref f_answer_evening) = true)
    (a_answer_call : PySem.W.nsIn K mainGlobals "answer_call" = some (some (.ref f_answer_call)))
    (l_answer_call : K.lookup f_answer_call = some ⟨oc_answer_call, od_answer_call, .func (PySem.W.fnOf "answer_call" "answer_call" (defArgs st_answer_call) (defBody st_answer_call) (defScope st_answer_call) .none kV_answer_call dc_answer_call pm_answer_call an_answer_call cd_answer_call ct_answer_call), sl_answer_call⟩)
    (c_answer_call : PySem.W.codeIn K cd_answer_call "answer_call" = true)
    (p_answer_call : PySem.W.keepIn K (.ref f_answer_call) = true)
    (a_answers : PySem.W.nsIn K mainGlobals "answers" = some (some (.ref f_answers)))
    (l_answers : K.lookup f_answers = some ⟨oc_answers, od_answers, .func (PySem.W.fnOf "answers" "answers" (defArgs st_answers) (defBody st_answers) (defScope st_answers) .none kV_answers dc_answers pm_answers an_answers cd_answers ct_answers), sl_answers⟩)
    (c_answers : PySem.W.codeIn K cd_answers "answers" = true)
    (p_answers : PySem.W.keepIn K (.ref f_answers) = true)
    (pg_Evening : PySem.W.plainGet K C_Evening Str.empty = true)
    (hd_Evening : PySem.W.hasDictIn K C_Evening = true)
    (po_Evening : PySem.W.plainOver K C_Evening = true)
    (sa_Evening : PySem.W.findIn K (.ref C_Evening) "__setattr__" = some (some (.builtin "object.__setattr__")))
    (mk_Evening : PySem.W.makesIn K C_Evening = true)
    (kc_Evening : PySem.W.keepIn K (.ref C_Evening) = true)
    (n_Evening_burns : PySem.W.findIn K (.ref C_Evening) "burns" = some none)
    (n_Evening_fire : PySem.W.findIn K (.ref C_Evening) "fire" = some none)
    (n_Evening_lost : PySem.W.findIn K (.ref C_Evening) "lost" = some none)
    (pg_Course : PySem.W.plainGet K C_Course Str.empty = true)
    (hd_Course : PySem.W.hasDictIn K C_Course = true)
    (po_Course : PySem.W.plainOver K C_Course = true)
    (sa_Course : PySem.W.findIn K (.ref C_Course) "__setattr__" = some (some (.builtin "object.__setattr__")))
    (mk_Course : PySem.W.makesIn K C_Course = true)
    (kc_Course : PySem.W.keepIn K (.ref C_Course) = true)
    (n_Course_minutes : PySem.W.findIn K (.ref C_Course) "minutes" = some none)
    (n_Course_ways : PySem.W.findIn K (.ref C_Course) "ways" = some none)
    (n_Course_where : PySem.W.findIn K (.ref C_Course) "where" = some none)
    (n_Course_worth : PySem.W.findIn K (.ref C_Course) "worth" = some none)
    (pg_Row : PySem.W.plainGet K C_Row Str.empty = true)
    (hd_Row : PySem.W.hasDictIn K C_Row = true)
    (po_Row : PySem.W.plainOver K C_Row = true)
    (sa_Row : PySem.W.findIn K (.ref C_Row) "__setattr__" = some (some (.builtin "object.__setattr__")))
    (mk_Row : PySem.W.makesIn K C_Row = true)
    (kc_Row : PySem.W.keepIn K (.ref C_Row) = true)
    (n_Row_breaks : PySem.W.findIn K (.ref C_Row) "breaks" = some none)
    (n_Row_last : PySem.W.findIn K (.ref C_Row) "last" = some none)
    (pg_Day : PySem.W.plainGet K C_Day Str.empty = true)
    (hd_Day : PySem.W.hasDictIn K C_Day = true)
    (po_Day : PySem.W.plainOver K C_Day = true)
    (sa_Day : PySem.W.findIn K (.ref C_Day) "__setattr__" = some (some (.builtin "object.__setattr__")))
    (mk_Day : PySem.W.makesIn K C_Day = true)
    (kc_Day : PySem.W.keepIn K (.ref C_Day) = true)
    (n_Day_minutes : PySem.W.findIn K (.ref C_Day) "minutes" = some none)
    (n_Day_where : PySem.W.findIn K (.ref C_Day) "where" = some none)
    (n_Day_wind : PySem.W.findIn K (.ref C_Day) "wind" = some none)
    (pg_Season : PySem.W.plainGet K C_Season Str.empty = true)
    (hd_Season : PySem.W.hasDictIn K C_Season = true)
    (po_Season : PySem.W.plainOver K C_Season = true)
    (sa_Season : PySem.W.findIn K (.ref C_Season) "__setattr__" = some (some (.builtin "object.__setattr__")))
    (mk_Season : PySem.W.makesIn K C_Season = true)
    (kc_Season : PySem.W.keepIn K (.ref C_Season) = true)
    (n_Season_days : PySem.W.findIn K (.ref C_Season) "days" = some none)
    (n_Season_slowness : PySem.W.findIn K (.ref C_Season) "slowness" = some none)
    (n_Season_wide : PySem.W.findIn K (.ref C_Season) "wide" = some none)
    (n_Season_worth : PySem.W.findIn K (.ref C_Season) "worth" = some none)
    (pg_Reader : PySem.W.plainGet K C_Reader Str.empty = true)
    (hd_Reader : PySem.W.hasDictIn K C_Reader = true)
    (po_Reader : PySem.W.plainOver K C_Reader = true)
    (sa_Reader : PySem.W.findIn K (.ref C_Reader) "__setattr__" = some (some (.builtin "object.__setattr__")))
    (mk_Reader : PySem.W.makesIn K C_Reader = true)
    (kc_Reader : PySem.W.keepIn K (.ref C_Reader) = true)
    (n_Reader_calls : PySem.W.findIn K (.ref C_Reader) "calls" = some none)
    (n_Reader_position : PySem.W.findIn K (.ref C_Reader) "position" = some none)
    : ∃ a : Ads, Txt K mg a ∧ a.f_answers = fa ∧ ∀ (s : Shared) (us : List Value), us.length = (["calls"] : List Str).length → BindsTo s a.d_answers ⟨us, []⟩ ((["calls"] : List Str).zip us) := by
  have e : fa = f_answers := by
    have e0 := hfa.symm.trans (PySem.W.mg_of X G a_answers)
    cases e0
    rfl
  refine ⟨⟨C_Evening, C_Course, C_Row, C_Day, C_Season, C_Reader, C_MayNotBeCut, f_break_at, PySem.W.fnOf "break_at" "break_at" (defArgs st_break_at) (defBody st_break_at) (defScope st_break_at) .none kV_break_at dc_break_at pm_break_at an_break_at cd_break_at ct_break_at, f_place_of, PySem.W.fnOf "place_of" "place_of" (defArgs st_place_of) (defBody st_place_of) (defScope st_place_of) .none kV_place_of dc_place_of pm_place_of an_place_of cd_place_of ct_place_of, f_neighbours, PySem.W.fnOf "neighbours" "neighbours" (defArgs st_neighbours) (defBody st_neighbours) (defScope st_neighbours) .none kV_neighbours dc_neighbours pm_neighbours an_neighbours cd_neighbours ct_neighbours, f_ways_from, PySem.W.fnOf "ways_from" "ways_from" (defArgs st_ways_from) (defBody st_ways_from) (defScope st_ways_from) .none kV_ways_from dc_ways_from pm_ways_from an_ways_from cd_ways_from ct_ways_from, f_Evening_init, PySem.W.fnOf "__init__" "Evening.__init__" (defArgs st_Evening_init) (defBody st_Evening_init) (defScope st_Evening_init) .none kV_Evening_init dc_Evening_init pm_Evening_init an_Evening_init cd_Evening_init ct_Evening_init, f_Evening_may_be_cut, PySem.W.fnOf "may_be_cut" "Evening.may_be_cut" (defArgs st_Evening_may_be_cut) (defBody st_Evening_may_be_cut) (defScope st_Evening_may_be_cut) .none kV_Evening_may_be_cut dc_Evening_may_be_cut pm_Evening_may_be_cut an_Evening_may_be_cut cd_Evening_may_be_cut ct_Evening_may_be_cut, f_Evening_could_burn, PySem.W.fnOf "could_burn" "Evening.could_burn" (defArgs st_Evening_could_burn) (defBody st_Evening_could_burn) (defScope st_Evening_could_burn) .none kV_Evening_could_burn dc_Evening_could_burn pm_Evening_could_burn an_Evening_could_burn cd_Evening_could_burn ct_Evening_could_burn, f_evening_ahead_of_all, PySem.W.fnOf "evening_ahead_of_all" "evening_ahead_of_all" (defArgs st_evening_ahead_of_all) (defBody st_evening_ahead_of_all) (defScope st_evening_ahead_of_all) .none kV_evening_ahead_of_all dc_evening_ahead_of_all pm_evening_ahead_of_all an_evening_ahead_of_all cd_evening_ahead_of_all ct_evening_ahead_of_all, f_Course_init, PySem.W.fnOf "__init__" "Course.__init__" (defArgs st_Course_init) (defBody st_Course_init) (defScope st_Course_init) .none kV_Course_init dc_Course_init pm_Course_init an_Course_init cd_Course_init ct_Course_init, f_Course_worth_together, PySem.W.fnOf "worth_together" "Course.worth_together" (defArgs st_Course_worth_together) (defBody st_Course_worth_together) (defScope st_Course_worth_together) .none kV_Course_worth_together dc_Course_worth_together pm_Course_worth_together an_Course_worth_together cd_Course_worth_together ct_Course_worth_together, f_Course_times, PySem.W.fnOf "times" "Course.times" (defArgs st_Course_times) (defBody st_Course_times) (defScope st_Course_times) .none kV_Course_times dc_Course_times pm_Course_times an_Course_times cd_Course_times ct_Course_times, f_Course_evening_with, PySem.W.fnOf "evening_with" "Course.evening_with" (defArgs st_Course_evening_with) (defBody st_Course_evening_with) (defScope st_Course_evening_with) .none kV_Course_evening_with dc_Course_evening_with pm_Course_evening_with an_Course_evening_with cd_Course_evening_with ct_Course_evening_with, f_follow_breaks, PySem.W.fnOf "follow_breaks" "follow_breaks" (defArgs st_follow_breaks) (defBody st_follow_breaks) (defScope st_follow_breaks) .none kV_follow_breaks dc_follow_breaks pm_follow_breaks an_follow_breaks cd_follow_breaks ct_follow_breaks, f_Row_init, PySem.W.fnOf "__init__" "Row.__init__" (defArgs st_Row_init) (defBody st_Row_init) (defScope st_Row_init) .none kV_Row_init dc_Row_init pm_Row_init an_Row_init cd_Row_init ct_Row_init, f_Row_longer_by, PySem.W.fnOf "longer_by" "Row.longer_by" (defArgs st_Row_longer_by) (defBody st_Row_longer_by) (defScope st_Row_longer_by) .none kV_Row_longer_by dc_Row_longer_by pm_Row_longer_by an_Row_longer_by cd_Row_longer_by ct_Row_longer_by, f_all_rows, PySem.W.fnOf "all_rows" "all_rows" (defArgs st_all_rows) (defBody st_all_rows) (defScope st_all_rows) .none kV_all_rows dc_all_rows pm_all_rows an_all_rows cd_all_rows ct_all_rows, f_best_rows, PySem.W.fnOf "best_rows" "best_rows" (defArgs st_best_rows) (defBody st_best_rows) (defScope st_best_rows) .none kV_best_rows dc_best_rows pm_best_rows an_best_rows cd_best_rows ct_best_rows, f_all_between, PySem.W.fnOf "all_between" "all_between" (defArgs st_all_between) (defBody st_all_between) (defScope st_all_between) .none kV_all_between dc_all_between pm_all_between an_all_between cd_all_between ct_all_between, f_is_rising, PySem.W.fnOf "is_rising" "is_rising" (defArgs st_is_rising) (defBody st_is_rising) (defScope st_is_rising) .none kV_is_rising dc_is_rising pm_is_rising an_is_rising cd_is_rising ct_is_rising, f_are_full_rows, PySem.W.fnOf "are_full_rows" "are_full_rows" (defArgs st_are_full_rows) (defBody st_are_full_rows) (defScope st_are_full_rows) .none kV_are_full_rows dc_are_full_rows pm_are_full_rows an_are_full_rows cd_are_full_rows ct_are_full_rows, f_slowness_of, PySem.W.fnOf "slowness_of" "slowness_of" (defArgs st_slowness_of) (defBody st_slowness_of) (defScope st_slowness_of) .none kV_slowness_of dc_slowness_of pm_slowness_of an_slowness_of cd_slowness_of ct_slowness_of, f_worth_of, PySem.W.fnOf "worth_of" "worth_of" (defArgs st_worth_of) (defBody st_worth_of) (defScope st_worth_of) .none kV_worth_of dc_worth_of pm_worth_of an_worth_of cd_worth_of ct_worth_of, f_is_forest, PySem.W.fnOf "is_forest" "is_forest" (defArgs st_is_forest) (defBody st_is_forest) (defScope st_is_forest) .none kV_is_forest dc_is_forest pm_is_forest an_is_forest cd_is_forest ct_is_forest, f_Day_init, PySem.W.fnOf "__init__" "Day.__init__" (defArgs st_Day_init) (defBody st_Day_init) (defScope st_Day_init) .none kV_Day_init dc_Day_init pm_Day_init an_Day_init cd_Day_init ct_Day_init, f_Day_is_as_told, PySem.W.fnOf "is_as_told" "Day.is_as_told" (defArgs st_Day_is_as_told) (defBody st_Day_is_as_told) (defScope st_Day_is_as_told) .none kV_Day_is_as_told dc_Day_is_as_told pm_Day_is_as_told an_Day_is_as_told cd_Day_is_as_told ct_Day_is_as_told, f_behind_lengths, PySem.W.fnOf "behind_lengths" "behind_lengths" (defArgs st_behind_lengths) (defBody st_behind_lengths) (defScope st_behind_lengths) .none kV_behind_lengths dc_behind_lengths pm_behind_lengths an_behind_lengths cd_behind_lengths ct_behind_lengths, f_Season_init, PySem.W.fnOf "__init__" "Season.__init__" (defArgs st_Season_init) (defBody st_Season_init) (defScope st_Season_init) .none kV_Season_init dc_Season_init pm_Season_init an_Season_init cd_Season_init ct_Season_init, f_Season_begins, PySem.W.fnOf "begins" "Season.begins" (defArgs st_Season_begins) (defBody st_Season_begins) (defScope st_Season_begins) .none kV_Season_begins dc_Season_begins pm_Season_begins an_Season_begins cd_Season_begins ct_Season_begins, f_Season_day, PySem.W.fnOf "day" "Season.day" (defArgs st_Season_day) (defBody st_Season_day) (defScope st_Season_day) .none kV_Season_day dc_Season_day pm_Season_day an_Season_day cd_Season_day ct_Season_day, f_Season_drop, PySem.W.fnOf "drop" "Season.drop" (defArgs st_Season_drop) (defBody st_Season_drop) (defScope st_Season_drop) .none kV_Season_drop dc_Season_drop pm_Season_drop an_Season_drop cd_Season_drop ct_Season_drop, f_Season_are_breaks, PySem.W.fnOf "are_breaks" "Season.are_breaks" (defArgs st_Season_are_breaks) (defBody st_Season_are_breaks) (defScope st_Season_are_breaks) .none kV_Season_are_breaks dc_Season_are_breaks pm_Season_are_breaks an_Season_are_breaks cd_Season_are_breaks ct_Season_are_breaks, f_Season_ahead, PySem.W.fnOf "ahead" "Season.ahead" (defArgs st_Season_ahead) (defBody st_Season_ahead) (defScope st_Season_ahead) .none kV_Season_ahead dc_Season_ahead pm_Season_ahead an_Season_ahead cd_Season_ahead ct_Season_ahead, f_Season_courses, PySem.W.fnOf "courses" "Season.courses" (defArgs st_Season_courses) (defBody st_Season_courses) (defScope st_Season_courses) .none kV_Season_courses dc_Season_courses pm_Season_courses an_Season_courses cd_Season_courses ct_Season_courses, f_Season_follow, PySem.W.fnOf "follow" "Season.follow" (defArgs st_Season_follow) (defBody st_Season_follow) (defScope st_Season_follow) .none kV_Season_follow dc_Season_follow pm_Season_follow an_Season_follow cd_Season_follow ct_Season_follow, f_Season_best, PySem.W.fnOf "best" "Season.best" (defArgs st_Season_best) (defBody st_Season_best) (defScope st_Season_best) .none kV_Season_best dc_Season_best pm_Season_best an_Season_best cd_Season_best ct_Season_best, f_Season_evening, PySem.W.fnOf "evening" "Season.evening" (defArgs st_Season_evening) (defBody st_Season_evening) (defScope st_Season_evening) .none kV_Season_evening dc_Season_evening pm_Season_evening an_Season_evening cd_Season_evening ct_Season_evening, f_Reader_init, PySem.W.fnOf "__init__" "Reader.__init__" (defArgs st_Reader_init) (defBody st_Reader_init) (defScope st_Reader_init) .none kV_Reader_init dc_Reader_init pm_Reader_init an_Reader_init cd_Reader_init ct_Reader_init, f_Reader_is_done, PySem.W.fnOf "is_done" "Reader.is_done" (defArgs st_Reader_is_done) (defBody st_Reader_is_done) (defScope st_Reader_is_done) .none kV_Reader_is_done dc_Reader_is_done pm_Reader_is_done an_Reader_is_done cd_Reader_is_done ct_Reader_is_done, f_Reader_take, PySem.W.fnOf "take" "Reader.take" (defArgs st_Reader_take) (defBody st_Reader_take) (defScope st_Reader_take) .none kV_Reader_take dc_Reader_take pm_Reader_take an_Reader_take cd_Reader_take ct_Reader_take, f_Reader_number, PySem.W.fnOf "number" "Reader.number" (defArgs st_Reader_number) (defBody st_Reader_number) (defScope st_Reader_number) .none kV_Reader_number dc_Reader_number pm_Reader_number an_Reader_number cd_Reader_number ct_Reader_number, f_Reader_row, PySem.W.fnOf "row" "Reader.row" (defArgs st_Reader_row) (defBody st_Reader_row) (defScope st_Reader_row) .none kV_Reader_row dc_Reader_row pm_Reader_row an_Reader_row cd_Reader_row ct_Reader_row, f_answer_begins, PySem.W.fnOf "answer_begins" "answer_begins" (defArgs st_answer_begins) (defBody st_answer_begins) (defScope st_answer_begins) .none kV_answer_begins dc_answer_begins pm_answer_begins an_answer_begins cd_answer_begins ct_answer_begins, f_answer_day, PySem.W.fnOf "answer_day" "answer_day" (defArgs st_answer_day) (defBody st_answer_day) (defScope st_answer_day) .none kV_answer_day dc_answer_day pm_answer_day an_answer_day cd_answer_day ct_answer_day, f_answer_evening, PySem.W.fnOf "answer_evening" "answer_evening" (defArgs st_answer_evening) (defBody st_answer_evening) (defScope st_answer_evening) .none kV_answer_evening dc_answer_evening pm_answer_evening an_answer_evening cd_answer_evening ct_answer_evening, f_answer_call, PySem.W.fnOf "answer_call" "answer_call" (defArgs st_answer_call) (defBody st_answer_call) (defScope st_answer_call) .none kV_answer_call dc_answer_call pm_answer_call an_answer_call cd_answer_call ct_answer_call, f_answers, PySem.W.fnOf "answers" "answers" (defArgs st_answers) (defBody st_answers) (defScope st_answers) .none kV_answers dc_answers pm_answers an_answers cd_answers ct_answers⟩, ?_, e.symm, fun s us hu => match us, hu with | [_], _ => .of_eq rfl⟩
  exact ⟨PySem.W.mg_none_of X G b_all,
    PySem.W.mg_none_of X G b_len,
    PySem.W.mg_none_of X G b_list,
    PySem.W.mg_none_of X G b_min,
    PySem.W.mg_none_of X G b_range,
    PySem.W.mg_none_of X G b_sum,
    PySem.W.mg_none_of X G b_zip,
    ⟨_, PySem.W.mg_of X G k_UP⟩,
    ⟨_, PySem.W.mg_of X G k_RIGHT⟩,
    ⟨_, PySem.W.mg_of X G k_DOWN⟩,
    ⟨_, PySem.W.mg_of X G k_LEFT⟩,
    ⟨_, PySem.W.mg_of X G k_NO_BREAK⟩,
    ⟨_, PySem.W.mg_of X G k_BEGINS⟩,
    ⟨_, PySem.W.mg_of X G k_DAY⟩,
    ⟨_, PySem.W.mg_of X G k_DROP⟩,
    ⟨_, PySem.W.mg_of X G k_FOLLOW⟩,
    ⟨_, PySem.W.mg_of X G k_BEST⟩,
    ⟨_, PySem.W.mg_of X G k_EVENING⟩,
    ⟨_, PySem.W.mg_of X G k_NOT_AS_TOLD⟩,
    ⟨_, PySem.W.mg_of X G k_NO_DAYS⟩,
    ⟨_, PySem.W.mg_of X G k_ENOUGH_DAYS⟩,
    ⟨_, PySem.W.mg_of X G k_NOT_CUT_THERE⟩,
    ⟨_, PySem.W.mg_of X G k_MOST_IN_A_ROW⟩,
    ⟨_, PySem.W.mg_of X G k_MOST_ROWS⟩,
    ⟨_, PySem.W.mg_of X G k_SLOWEST⟩,
    ⟨_, PySem.W.mg_of X G k_MOST_WORTH⟩,
    ⟨_, PySem.W.mg_of X G k_STRONGEST_WIND⟩,
    ⟨_, PySem.W.mg_of X G k_MOST_MINUTES⟩,
    ⟨_, PySem.W.mg_of X G k_MOST_DAYS⟩,
    ⟨_, PySem.W.mg_of X G k_DIRECTIONS⟩,
    ⟨pg_Evening, hd_Evening, po_Evening, sa_Evening⟩,
    PySem.W.mg_of X G aC_Evening,
    ⟨mk_Evening, a_Evening_init, i_Evening_init, kc_Evening⟩,
    n_Evening_burns,
    n_Evening_fire,
    n_Evening_lost,
    ⟨a_Evening_may_be_cut, i_Evening_may_be_cut, p_Evening_may_be_cut⟩,
    ⟨a_Evening_could_burn, i_Evening_could_burn, p_Evening_could_burn⟩,
    ⟨pg_Course, hd_Course, po_Course, sa_Course⟩,
    PySem.W.mg_of X G aC_Course,
    ⟨mk_Course, a_Course_init, i_Course_init, kc_Course⟩,
    n_Course_minutes,
    n_Course_ways,
    n_Course_where,
    n_Course_worth,
    ⟨a_Course_worth_together, i_Course_worth_together, p_Course_worth_together⟩,
    ⟨a_Course_times, i_Course_times, p_Course_times⟩,
    ⟨a_Course_evening_with, i_Course_evening_with, p_Course_evening_with⟩,
    ⟨pg_Row, hd_Row, po_Row, sa_Row⟩,
    PySem.W.mg_of X G aC_Row,
    ⟨mk_Row, a_Row_init, i_Row_init, kc_Row⟩,
    n_Row_breaks,
    n_Row_last,
    ⟨a_Row_longer_by, i_Row_longer_by, p_Row_longer_by⟩,
    ⟨pg_Day, hd_Day, po_Day, sa_Day⟩,
    PySem.W.mg_of X G aC_Day,
    ⟨mk_Day, a_Day_init, i_Day_init, kc_Day⟩,
    n_Day_minutes,
    n_Day_where,
    n_Day_wind,
    ⟨a_Day_is_as_told, i_Day_is_as_told, p_Day_is_as_told⟩,
    ⟨pg_Season, hd_Season, po_Season, sa_Season⟩,
    PySem.W.mg_of X G aC_Season,
    ⟨mk_Season, a_Season_init, i_Season_init, kc_Season⟩,
    n_Season_days,
    n_Season_slowness,
    n_Season_wide,
    n_Season_worth,
    ⟨a_Season_begins, i_Season_begins, p_Season_begins⟩,
    ⟨a_Season_day, i_Season_day, p_Season_day⟩,
    ⟨a_Season_drop, i_Season_drop, p_Season_drop⟩,
    ⟨a_Season_are_breaks, i_Season_are_breaks, p_Season_are_breaks⟩,
    ⟨a_Season_ahead, i_Season_ahead, p_Season_ahead⟩,
    ⟨a_Season_courses, i_Season_courses, p_Season_courses⟩,
    ⟨a_Season_follow, i_Season_follow, p_Season_follow⟩,
    ⟨a_Season_best, i_Season_best, p_Season_best⟩,
    ⟨a_Season_evening, i_Season_evening, p_Season_evening⟩,
    ⟨pg_Reader, hd_Reader, po_Reader, sa_Reader⟩,
    PySem.W.mg_of X G aC_Reader,
    ⟨mk_Reader, a_Reader_init, i_Reader_init, kc_Reader⟩,
    n_Reader_calls,
    n_Reader_position,
    ⟨a_Reader_is_done, i_Reader_is_done, p_Reader_is_done⟩,
    ⟨a_Reader_take, i_Reader_take, p_Reader_take⟩,
    ⟨a_Reader_number, i_Reader_number, p_Reader_number⟩,
    ⟨a_Reader_row, i_Reader_row, p_Reader_row⟩,
    fun_mk (st := st_break_at) l_break_at c_break_at p_break_at,
    (fun_mk (st := st_break_at) l_break_at c_break_at p_break_at).binds (ps := ["place"]) fun _ _ _ _ _ _ us hl => match us, hl with | [_], _ => rfl,
    PySem.W.mg_of X G a_break_at,
    fun_mk (st := st_place_of) l_place_of c_place_of p_place_of,
    (fun_mk (st := st_place_of) l_place_of c_place_of p_place_of).binds (ps := ["told"]) fun _ _ _ _ _ _ us hl => match us, hl with | [_], _ => rfl,
    PySem.W.mg_of X G a_place_of,
    fun_mk (st := st_neighbours) l_neighbours c_neighbours p_neighbours,
    (fun_mk (st := st_neighbours) l_neighbours c_neighbours p_neighbours).binds (ps := ["wide", "count", "place"]) fun _ _ _ _ _ _ us hl => match us, hl with | [_, _, _], _ => rfl,
    PySem.W.mg_of X G a_neighbours,
    fun_mk (st := st_ways_from) l_ways_from c_ways_from p_ways_from,
    (fun_mk (st := st_ways_from) l_ways_from c_ways_from p_ways_from).binds (ps := ["place", "wide", "slowness", "wind"]) fun _ _ _ _ _ _ us hl => match us, hl with | [_, _, _, _], _ => rfl,
    PySem.W.mg_of X G a_ways_from,
    fun_mk (st := st_Evening_init) l_Evening_init c_Evening_init p_Evening_init,
    (fun_mk (st := st_Evening_init) l_Evening_init c_Evening_init p_Evening_init).binds (ps := ["self", "burns", "fire", "lost"]) fun _ _ _ _ _ _ us hl => match us, hl with | [_, _, _, _], _ => rfl,
    fun_mk (st := st_Evening_may_be_cut) l_Evening_may_be_cut c_Evening_may_be_cut p_Evening_may_be_cut,
    (fun_mk (st := st_Evening_may_be_cut) l_Evening_may_be_cut c_Evening_may_be_cut p_Evening_may_be_cut).binds (ps := ["self", "place"]) fun _ _ _ _ _ _ us hl => match us, hl with | [_, _], _ => rfl,
    fun_mk (st := st_Evening_could_burn) l_Evening_could_burn c_Evening_could_burn p_Evening_could_burn,
    (fun_mk (st := st_Evening_could_burn) l_Evening_could_burn c_Evening_could_burn p_Evening_could_burn).binds (ps := ["self"]) fun _ _ _ _ _ _ us hl => match us, hl with | [_], _ => rfl,
    fun_mk (st := st_evening_ahead_of_all) l_evening_ahead_of_all c_evening_ahead_of_all p_evening_ahead_of_all,
    (fun_mk (st := st_evening_ahead_of_all) l_evening_ahead_of_all c_evening_ahead_of_all p_evening_ahead_of_all).binds (ps := ["slowness"]) fun _ _ _ _ _ _ us hl => match us, hl with | [_], _ => rfl,
    PySem.W.mg_of X G a_evening_ahead_of_all,
    fun_mk (st := st_Course_init) l_Course_init c_Course_init p_Course_init,
    (fun_mk (st := st_Course_init) l_Course_init c_Course_init p_Course_init).binds (ps := ["self", "wide", "slowness", "worth", "day"]) fun _ _ _ _ _ _ us hl => match us, hl with | [_, _, _, _, _], _ => rfl,
    fun_mk (st := st_Course_worth_together) l_Course_worth_together c_Course_worth_together p_Course_worth_together,
    (fun_mk (st := st_Course_worth_together) l_Course_worth_together c_Course_worth_together p_Course_worth_together).binds (ps := ["self", "places"]) fun _ _ _ _ _ _ us hl => match us, hl with | [_, _], _ => rfl,
    fun_mk (st := st_Course_times) l_Course_times c_Course_times p_Course_times,
    (fun_mk (st := st_Course_times) l_Course_times c_Course_times p_Course_times).binds (ps := ["self", "burns", "starts"]) fun _ _ _ _ _ _ us hl => match us, hl with | [_, _, _], _ => rfl,
    fun_mk (st := st_Course_evening_with) l_Course_evening_with c_Course_evening_with p_Course_evening_with,
    (fun_mk (st := st_Course_evening_with) l_Course_evening_with c_Course_evening_with p_Course_evening_with).binds (ps := ["self", "told", "before"]) fun _ _ _ _ _ _ us hl => match us, hl with | [_, _, _], _ => rfl,
    fun_mk (st := st_follow_breaks) l_follow_breaks c_follow_breaks p_follow_breaks,
    (fun_mk (st := st_follow_breaks) l_follow_breaks c_follow_breaks p_follow_breaks).binds (ps := ["courses", "ahead", "breaks"]) fun _ _ _ _ _ _ us hl => match us, hl with | [_, _, _], _ => rfl,
    PySem.W.mg_of X G a_follow_breaks,
    fun_mk (st := st_Row_init) l_Row_init c_Row_init p_Row_init,
    (fun_mk (st := st_Row_init) l_Row_init c_Row_init p_Row_init).binds (ps := ["self", "breaks", "last"]) fun _ _ _ _ _ _ us hl => match us, hl with | [_, _, _], _ => rfl,
    fun_mk (st := st_Row_longer_by) l_Row_longer_by c_Row_longer_by p_Row_longer_by,
    (fun_mk (st := st_Row_longer_by) l_Row_longer_by c_Row_longer_by p_Row_longer_by).binds (ps := ["self", "course"]) fun _ _ _ _ _ _ us hl => match us, hl with | [_, _], _ => rfl,
    fun_mk (st := st_all_rows) l_all_rows c_all_rows p_all_rows,
    (fun_mk (st := st_all_rows) l_all_rows c_all_rows p_all_rows).binds (ps := ["courses", "ahead"]) fun _ _ _ _ _ _ us hl => match us, hl with | [_, _], _ => rfl,
    PySem.W.mg_of X G a_all_rows,
    fun_mk (st := st_best_rows) l_best_rows c_best_rows p_best_rows,
    (fun_mk (st := st_best_rows) l_best_rows c_best_rows p_best_rows).binds (ps := ["courses", "ahead"]) fun _ _ _ _ _ _ us hl => match us, hl with | [_, _], _ => rfl,
    PySem.W.mg_of X G a_best_rows,
    fun_mk (st := st_all_between) l_all_between c_all_between p_all_between,
    (fun_mk (st := st_all_between) l_all_between c_all_between p_all_between).binds (ps := ["numbers", "lowest", "highest"]) fun _ _ _ _ _ _ us hl => match us, hl with | [_, _, _], _ => rfl,
    PySem.W.mg_of X G a_all_between,
    fun_mk (st := st_is_rising) l_is_rising c_is_rising p_is_rising,
    (fun_mk (st := st_is_rising) l_is_rising c_is_rising p_is_rising).binds (ps := ["numbers"]) fun _ _ _ _ _ _ us hl => match us, hl with | [_], _ => rfl,
    PySem.W.mg_of X G a_is_rising,
    fun_mk (st := st_are_full_rows) l_are_full_rows c_are_full_rows p_are_full_rows,
    (fun_mk (st := st_are_full_rows) l_are_full_rows c_are_full_rows p_are_full_rows).binds (ps := ["wide", "count"]) fun _ _ _ _ _ _ us hl => match us, hl with | [_, _], _ => rfl,
    PySem.W.mg_of X G a_are_full_rows,
    fun_mk (st := st_slowness_of) l_slowness_of c_slowness_of p_slowness_of,
    (fun_mk (st := st_slowness_of) l_slowness_of c_slowness_of p_slowness_of).binds (ps := ["places"]) fun _ _ _ _ _ _ us hl => match us, hl with | [_], _ => rfl,
    PySem.W.mg_of X G a_slowness_of,
    fun_mk (st := st_worth_of) l_worth_of c_worth_of p_worth_of,
    (fun_mk (st := st_worth_of) l_worth_of c_worth_of p_worth_of).binds (ps := ["places"]) fun _ _ _ _ _ _ us hl => match us, hl with | [_], _ => rfl,
    PySem.W.mg_of X G a_worth_of,
    fun_mk (st := st_is_forest) l_is_forest c_is_forest p_is_forest,
    (fun_mk (st := st_is_forest) l_is_forest c_is_forest p_is_forest).binds (ps := ["wide", "places"]) fun _ _ _ _ _ _ us hl => match us, hl with | [_, _], _ => rfl,
    PySem.W.mg_of X G a_is_forest,
    fun_mk (st := st_Day_init) l_Day_init c_Day_init p_Day_init,
    (fun_mk (st := st_Day_init) l_Day_init c_Day_init p_Day_init).binds (ps := ["self", "wind", "minutes", "where"]) fun _ _ _ _ _ _ us hl => match us, hl with | [_, _, _, _], _ => rfl,
    fun_mk (st := st_Day_is_as_told) l_Day_is_as_told c_Day_is_as_told p_Day_is_as_told,
    (fun_mk (st := st_Day_is_as_told) l_Day_is_as_told c_Day_is_as_told p_Day_is_as_told).binds (ps := ["self", "count"]) fun _ _ _ _ _ _ us hl => match us, hl with | [_, _], _ => rfl,
    fun_mk (st := st_behind_lengths) l_behind_lengths c_behind_lengths p_behind_lengths,
    (fun_mk (st := st_behind_lengths) l_behind_lengths c_behind_lengths p_behind_lengths).binds (ps := ["lists"]) fun _ _ _ _ _ _ us hl => match us, hl with | [_], _ => rfl,
    PySem.W.mg_of X G a_behind_lengths,
    fun_mk (st := st_Season_init) l_Season_init c_Season_init p_Season_init,
    (fun_mk (st := st_Season_init) l_Season_init c_Season_init p_Season_init).binds (ps := ["self"]) fun _ _ _ _ _ _ us hl => match us, hl with | [_], _ => rfl,
    fun_mk (st := st_Season_begins) l_Season_begins c_Season_begins p_Season_begins,
    (fun_mk (st := st_Season_begins) l_Season_begins c_Season_begins p_Season_begins).binds (ps := ["self", "wide", "places"]) fun _ _ _ _ _ _ us hl => match us, hl with | [_, _, _], _ => rfl,
    fun_mk (st := st_Season_day) l_Season_day c_Season_day p_Season_day,
    (fun_mk (st := st_Season_day) l_Season_day c_Season_day p_Season_day).binds (ps := ["self", "wind", "minutes", "where"]) fun _ _ _ _ _ _ us hl => match us, hl with | [_, _, _, _], _ => rfl,
    fun_mk (st := st_Season_drop) l_Season_drop c_Season_drop p_Season_drop,
    (fun_mk (st := st_Season_drop) l_Season_drop c_Season_drop p_Season_drop).binds (ps := ["self"]) fun _ _ _ _ _ _ us hl => match us, hl with | [_], _ => rfl,
    fun_mk (st := st_Season_are_breaks) l_Season_are_breaks c_Season_are_breaks p_Season_are_breaks,
    (fun_mk (st := st_Season_are_breaks) l_Season_are_breaks c_Season_are_breaks p_Season_are_breaks).binds (ps := ["self", "breaks"]) fun _ _ _ _ _ _ us hl => match us, hl with | [_, _], _ => rfl,
    fun_mk (st := st_Season_ahead) l_Season_ahead c_Season_ahead p_Season_ahead,
    (fun_mk (st := st_Season_ahead) l_Season_ahead c_Season_ahead p_Season_ahead).binds (ps := ["self"]) fun _ _ _ _ _ _ us hl => match us, hl with | [_], _ => rfl,
    fun_mk (st := st_Season_courses) l_Season_courses c_Season_courses p_Season_courses,
    (fun_mk (st := st_Season_courses) l_Season_courses c_Season_courses p_Season_courses).binds (ps := ["self"]) fun _ _ _ _ _ _ us hl => match us, hl with | [_], _ => rfl,
    fun_mk (st := st_Season_follow) l_Season_follow c_Season_follow p_Season_follow,
    (fun_mk (st := st_Season_follow) l_Season_follow c_Season_follow p_Season_follow).binds (ps := ["self", "breaks"]) fun _ _ _ _ _ _ us hl => match us, hl with | [_, _], _ => rfl,
    fun_mk (st := st_Season_best) l_Season_best c_Season_best p_Season_best,
    (fun_mk (st := st_Season_best) l_Season_best c_Season_best p_Season_best).binds (ps := ["self"]) fun _ _ _ _ _ _ us hl => match us, hl with | [_], _ => rfl,
    fun_mk (st := st_Season_evening) l_Season_evening c_Season_evening p_Season_evening,
    (fun_mk (st := st_Season_evening) l_Season_evening c_Season_evening p_Season_evening).binds (ps := ["self", "k", "breaks"]) fun _ _ _ _ _ _ us hl => match us, hl with | [_, _, _], _ => rfl,
    fun_mk (st := st_Reader_init) l_Reader_init c_Reader_init p_Reader_init,
    (fun_mk (st := st_Reader_init) l_Reader_init c_Reader_init p_Reader_init).binds (ps := ["self", "calls"]) fun _ _ _ _ _ _ us hl => match us, hl with | [_, _], _ => rfl,
    fun_mk (st := st_Reader_is_done) l_Reader_is_done c_Reader_is_done p_Reader_is_done,
    (fun_mk (st := st_Reader_is_done) l_Reader_is_done c_Reader_is_done p_Reader_is_done).binds (ps := ["self"]) fun _ _ _ _ _ _ us hl => match us, hl with | [_], _ => rfl,
    fun_mk (st := st_Reader_take) l_Reader_take c_Reader_take p_Reader_take,
    (fun_mk (st := st_Reader_take) l_Reader_take c_Reader_take p_Reader_take).binds (ps := ["self", "many"]) fun _ _ _ _ _ _ us hl => match us, hl with | [_, _], _ => rfl,
    fun_mk (st := st_Reader_number) l_Reader_number c_Reader_number p_Reader_number,
    (fun_mk (st := st_Reader_number) l_Reader_number c_Reader_number p_Reader_number).binds (ps := ["self"]) fun _ _ _ _ _ _ us hl => match us, hl with | [_], _ => rfl,
    fun_mk (st := st_Reader_row) l_Reader_row c_Reader_row p_Reader_row,
    (fun_mk (st := st_Reader_row) l_Reader_row c_Reader_row p_Reader_row).binds (ps := ["self"]) fun _ _ _ _ _ _ us hl => match us, hl with | [_], _ => rfl,
    fun_mk (st := st_answer_begins) l_answer_begins c_answer_begins p_answer_begins,
    (fun_mk (st := st_answer_begins) l_answer_begins c_answer_begins p_answer_begins).binds (ps := ["season", "reader"]) fun _ _ _ _ _ _ us hl => match us, hl with | [_, _], _ => rfl,
    PySem.W.mg_of X G a_answer_begins,
    fun_mk (st := st_answer_day) l_answer_day c_answer_day p_answer_day,
    (fun_mk (st := st_answer_day) l_answer_day c_answer_day p_answer_day).binds (ps := ["season", "reader"]) fun _ _ _ _ _ _ us hl => match us, hl with | [_, _], _ => rfl,
    PySem.W.mg_of X G a_answer_day,
    fun_mk (st := st_answer_evening) l_answer_evening c_answer_evening p_answer_evening,
    (fun_mk (st := st_answer_evening) l_answer_evening c_answer_evening p_answer_evening).binds (ps := ["season", "reader"]) fun _ _ _ _ _ _ us hl => match us, hl with | [_, _], _ => rfl,
    PySem.W.mg_of X G a_answer_evening,
    fun_mk (st := st_answer_call) l_answer_call c_answer_call p_answer_call,
    (fun_mk (st := st_answer_call) l_answer_call c_answer_call p_answer_call).binds (ps := ["season", "reader"]) fun _ _ _ _ _ _ us hl => match us, hl with | [_, _], _ => rfl,
    PySem.W.mg_of X G a_answer_call,
    fun_mk (st := st_answers) l_answers c_answers p_answers,
    (fun_mk (st := st_answers) l_answers c_answers p_answers).binds (ps := ["calls"]) fun _ _ _ _ _ _ us hl => match us, hl with | [_], _ => rfl,
    PySem.W.mg_of X G a_answers,
    PySem.W.mg_of X G aC_MayNotBeCut,
    e_MayNotBeCut⟩
end Fs

set_option Elab.async false
set_option maxRecDepth 100000
set_option maxHeartbeats 2000000
namespace Fs
open PySem PySem.Spec PyProof.Rows L2
open PySem.W (Codec)
section
variable {P : Program} {w : World} {K : PySem.W.Frag} {mg : Str → Option Value} {base : Heap} {a : Ads}
/-- a list of ints that is read -/
abbrev Ints (K : PySem.W.Frag) (H : Hp) (p : Addr) (ns : List Int) : Prop := SqL K H p (ns.map V.int)
def sp_all_between (K : PySem.W.Frag) : Sp := fun vs H Q _ => ∃ (p : Addr) (ns : List Int) (lo hi : Int), vs = [.ref p, .int lo, .int hi] ∧ Ints K H p ns ∧ ns.length ≤ 100000 ∧
  ∀ H', Same H H' → Q (.bl (ns.all fun n => decide (lo ≤ n) && decide (n ≤ hi))) H'
theorem ok_all_between (T : Txt K mg a) : FnOk P w K mg base CX0 1 a.f_all_between a.d_all_between ["numbers", "lowest", "highest"] (sp_all_between K) := by
  refine T.F_all_between.ok sc_all_between (fun vs H Q E h => ?_) (fun cdv A outer s H vs Q E hr h => ?_)
  · obtain ⟨p, ns, lo, hi, rfl, _⟩ := h
    rfl
  · obtain ⟨p, ns, lo, hi, rfl, hS, hl, k⟩ := h
    refine ⟨_, pss_one (ps_ret (pe_callB (cr_all rfl) (by rfl) T.b_all boot_all (pa_cons (pe_lc rfl sc_all_between.nd (pi_list (pv 0)) (own := [("number", 3)]) (blkOk_by (by show blkC ["numbers", "lowest", "highest", "number"] (defScope st_all_between) _ _ = true; decide +kernel))
      (fun _ _ _ _ _ => pg_name (i := 3) sc_all_between.nd rfl (Or.inl rfl)) (fun _ _ _ _ _ => pts_nil)
      (fun _ _ _ _ _ => pe_chain op_le op_le (pv 1) (pv 3) (pv 2))) pa_nil))), ?_⟩
    refine ⟨_, rfl, p, rfl, ⟨_, hS⟩, fun D hD => lc_map (fun v => match v with | .int n => .bl (decide (lo ≤ n) && decide (n ≤ hi)) | _ => .non) hD hS (by rw [List.length_map]; omega) (fun x hx H1 Q1 s1 q1 => ?_) ?_⟩
    · obtain ⟨n, _, rfl⟩ := List.mem_map.mp hx
      refine ⟨_, rfl, _, rfl, _, _, rfl, rfl, _, rfl, ?_⟩
      refine ite2 (fun c => ⟨_, rfl, _, _, rfl, rfl, ?_⟩) (fun c => ?_)
      · have c' : decide (lo ≤ n) = true := c
        simp only [c', Bool.true_and] at q1
        exact q1
      · have c' : decide (lo ≤ n) = false := by simpa using c
        simp only [c', Bool.false_and] at q1
        exact q1
    · refine ⟨D, ns.map (fun n => decide (lo ≤ n) && decide (n ≤ hi)), rfl, ?_, ?_⟩
      · rw [List.map_map, List.map_map]
        exact SqL.of upd_same
      · have e : (ns.map (fun n => decide (lo ≤ n) && decide (n ≤ hi))).all id = ns.all fun n => decide (lo ≤ n) && decide (n ≤ hi) := by rw [List.all_map]; rfl
        show Q _ _
        rw [e]
        exact k _ (same_upd hD)
end
end Fs

set_option Elab.async false
set_option maxRecDepth 100000
set_option maxHeartbeats 2000000
namespace Fs
open PySem PySem.Spec PyProof.Rows L2
open PySem.W (Codec)
/-! numbers -/
def risingI : List Int → Bool
  | a :: b :: l => decide (a < b) && risingI (b :: l)
  | _ => true
theorem risingI_range : ∀ ns : List Int, (List.range (ns.length - 1)).all (fun i => decide (ns.getD i 0 < ns.getD (i + 1) 0)) = risingI ns
  | [] => rfl
  | [a] => rfl
  | a :: b :: l => by
    have ih := risingI_range (b :: l)
    show (List.range (l.length + 1)).all _ = (decide (a < b) && risingI (b :: l))
    rw [List.range_succ_eq_map, List.all_cons, List.all_map, ← ih]
    rfl
section
variable {P : Program} {w : World} {K : PySem.W.Frag} {mg : Str → Option Value} {base : Heap} {a : Ads}
def sp_is_rising (K : PySem.W.Frag) : Sp := fun vs H Q _ => ∃ (p : Addr) (ns : List Int), vs = [.ref p] ∧ Ints K H p ns ∧ ns.length ≤ 100000 ∧ ∀ H', Same H H' → Q (.bl (risingI ns)) H'
theorem ok_is_rising (T : Txt K mg a) : FnOk P w K mg base CX0 1 a.f_is_rising a.d_is_rising ["numbers"] (sp_is_rising K) := by
  refine T.F_is_rising.ok sc_is_rising (fun vs H Q E h => ?_) (fun cdv A outer s H vs Q E hr h => ?_)
  · obtain ⟨p, ns, rfl, _⟩ := h
    rfl
  · obtain ⟨p, ns, rfl, hS, hl, k⟩ := h
    refine ⟨_, pss_one (ps_ret (pe_callB (cr_all rfl) (by rfl) T.b_all boot_all (pa_cons (pe_lc rfl sc_is_rising.nd (pi_range2 (by rfl) T.b_range (pa_cons pe_int (pa_cons (pe_callB call_len_seq (by rfl) T.b_len PySem.boot_len (pa_cons (pv 0) pa_nil)) pa_nil))) (own := [("k", 1)]) (blkOk_by (by show blkC ["numbers", "k"] (defScope st_is_rising) _ _ = true; decide +kernel))
      (fun _ _ _ _ _ => pg_name (i := 1) sc_is_rising.nd rfl (Or.inl rfl)) (fun _ _ _ _ _ => pts_nil)
      (fun _ _ _ _ _ => pe_cmpR op_lt (pe_ix (ix_listK (K := K) rfl) (pv 0) (pe_op op_sub (pv 1) pe_int) (fun _ _ => rfl)) (pe_ix (ix_listK (K := K) rfl) (pv 0) (pv 1) (fun _ _ => rfl)) (nomark _))) pa_nil))), ?_⟩
    refine ⟨_, rfl, p, _, rfl, .inl hS, 1, ((ns.map V.int).length : Int), rfl, ⟨by decide, by decide, by omega, by rw [List.length_map]; omega⟩, fun D hD => ?_⟩
    have em : (((ns.map V.int).length : Int) - 1).toNat = ns.length - 1 := by rw [List.length_map]; omega
    rw [em]
    refine lc_rmap (fun i => .bl (decide (ns.getD i 0 < ns.getD (i + 1) 0))) hD (by omega) (fun i hi H1 Q1 s1 q1 => ?_) ?_
    · have h1 : (ns.map V.int)[i]? = some (.int (ns.getD i 0)) := by
        rw [List.getElem?_map, List.getElem?_eq_getElem (by omega), List.getD_eq_getElem?_getD, List.getElem?_eq_getElem (by omega)]
        rfl
      have h2 : (ns.map V.int)[i + 1]? = some (.int (ns.getD (i + 1) 0)) := by
        rw [List.getElem?_map, List.getElem?_eq_getElem (by omega), List.getD_eq_getElem?_getD, List.getElem?_eq_getElem (by omega)]
        rfl
      exact ⟨_, rfl, _, rfl, _, _, rfl, rfl, p, _, _, _, rfl, rfl, s1.seq hS, at_of (j := i) (by omega) h1, _, rfl, _, rfl, p, _, _, _, rfl, rfl, s1.seq hS, at_of (j := i + 1) (by omega) h2, _, _, rfl, rfl, q1⟩
    · refine ⟨D, (List.range (ns.length - 1)).map (fun i => decide (ns.getD i 0 < ns.getD (i + 1) 0)), rfl, ?_, ?_⟩
      · rw [List.map_map]
        exact SqL.of upd_same
      · have e : ((List.range (ns.length - 1)).map (fun i => decide (ns.getD i 0 < ns.getD (i + 1) 0))).all id = risingI ns := by
          rw [List.all_map, ← risingI_range]
          rfl
        show Q _ _
        rw [e]
        exact k _ (same_upd hD)
def fullRows (wd c : Int) : Bool := decide (1 ≤ wd) && decide (wd ≤ 4) && (decide (c % wd = 0) && (decide (1 ≤ c / wd) && decide (c / wd ≤ 4)))
def sp_are_full_rows : Sp := fun vs H Q _ => ∃ (wd c : Int), vs = [.int wd, .int c] ∧ Q (.bl (fullRows wd c)) H
theorem ok_are_full_rows (T : Txt K mg a) : FnOk P w K mg base CX0 1 a.f_are_full_rows a.d_are_full_rows ["wide", "count"] sp_are_full_rows := by
  refine T.F_are_full_rows.ok sc_are_full_rows (fun vs H Q E h => ?_) (fun cdv A outer s H vs Q E hr h => ?_)
  · obtain ⟨wd, c, rfl, _⟩ := h
    rfl
  · obtain ⟨wd, c, rfl, k⟩ := h
    obtain ⟨t1, g1⟩ := T.k_MOST_IN_A_ROW
    obtain ⟨t2, g2⟩ := T.k_MOST_ROWS
    refine ⟨_, pss_cons (ps_if (pt_not (pt_chain op_le op_le pe_int (pv 0) (pe_glob (v := .int 4) (by rfl) g1 ⟨_, rfl⟩))) (pss_one (ps_ret pe_bl)) pss_nil)
      (pss_one (ps_ret (pe_and (pe_cmpR op_eq (pe_op op_mod (pv 1) (pv 0)) pe_int (nomark _)) (pe_one (pe_chain op_le op_le pe_int (pe_op op_fdiv (pv 1) (pv 0)) (pe_glob (v := .int 4) (by rfl) g2 ⟨_, rfl⟩)))))), ?_⟩
    unfold fullRows at k
    refine ⟨_, rfl, _, _, rfl, rfl, _, rfl, ite2 (fun c1 => ⟨_, _, rfl, rfl, _, rfl, ?_⟩) (fun c1 => ⟨_, rfl, ?_⟩)⟩
    · have d1 : decide (1 ≤ wd) = true := c1
      rw [d1] at k
      refine ite2 (fun c2 => ?_) (fun c2 => ?_)
      · have d2 : decide (wd ≤ 4) = false := by simpa using c2
        rw [d2] at k
        exact k
      · have d2 : decide (wd ≤ 4) = true := by simpa using c2
        rw [d2] at k
        have w1 : 1 ≤ wd := of_decide_eq_true d1
        have w4 : wd ≤ 4 := of_decide_eq_true d2
        refine ⟨_, rfl, _, rfl, _, _, rfl, rfl, (by show 0 < wd; omega), rfl, _, rfl, ite2 (fun c3 => ?_) (fun c3 => ?_)⟩
        · have d3 : decide (c % wd = 0) = true := by
            have c3' : decide (V.int (c % wd) = V.int 0) = true := c3
            simpa using c3'
          rw [d3] at k
          refine ⟨_, rfl, _, rfl, _, _, rfl, rfl, ⟨by omega, by omega⟩, _, _, rfl, rfl, _, rfl, ite2 (fun c4 => ?_) (fun c4 => ?_)⟩
          · have d4 : decide (1 ≤ c / wd) = true := c4
            rw [d4] at k
            exact ⟨_, _, rfl, rfl, k⟩
          · have d4 : decide (1 ≤ c / wd) = false := by simpa using c4
            rw [d4] at k
            exact k
        · have d3 : decide (c % wd = 0) = false := by
            have c3' : ¬ decide (V.int (c % wd) = V.int 0) = true := c3
            simpa using c3'
          rw [d3] at k
          exact k
    · have d1 : decide (1 ≤ wd) = false := by simpa using c1
      rw [d1] at k
      exact iteT k
def sp_slowness_of (K : PySem.W.Frag) : Sp := fun vs H Q _ => ∃ (p : Addr) (xs : List V), vs = [.ref p] ∧ SqL K H p xs ∧ ∀ q, H q = none → Q (.ref q) (upd H q (.lst (evens xs)))
theorem ok_slowness_of (T : Txt K mg a) : FnOk P w K mg base CX0 1 a.f_slowness_of a.d_slowness_of ["places"] (sp_slowness_of K) := by
  refine T.F_slowness_of.ok sc_slowness_of (fun vs H Q E h => ?_) (fun cdv A outer s H vs Q E hr h => ?_)
  · obtain ⟨p, xs, rfl, _⟩ := h
    rfl
  · obtain ⟨p, xs, rfl, hS, k⟩ := h
    refine ⟨_, pss_one (ps_ret (pe_slice3 (pv 0) (po_some pe_int) po_none pe_int)), ?_⟩
    refine ⟨_, rfl, _, rfl, p, xs, 2, rfl, rfl, by decide, hS, fun q hq => ?_⟩
    rw [pickV_even]
    exact k q hq
def sp_worth_of (K : PySem.W.Frag) : Sp := fun vs H Q _ => ∃ (p : Addr) (xs : List V), vs = [.ref p] ∧ SqL K H p xs ∧ ∀ q, H q = none → Q (.ref q) (upd H q (.lst (odds xs)))
theorem ok_worth_of (T : Txt K mg a) : FnOk P w K mg base CX0 1 a.f_worth_of a.d_worth_of ["places"] (sp_worth_of K) := by
  refine T.F_worth_of.ok sc_worth_of (fun vs H Q E h => ?_) (fun cdv A outer s H vs Q E hr h => ?_)
  · obtain ⟨p, xs, rfl, _⟩ := h
    rfl
  · obtain ⟨p, xs, rfl, hS, k⟩ := h
    refine ⟨_, pss_one (ps_ret (pe_slice3 (pv 0) (po_some pe_int) po_none pe_int)), ?_⟩
    refine ⟨_, rfl, _, rfl, p, xs, 2, rfl, rfl, by decide, hS, fun q hq => ?_⟩
    rw [pickV_odd]
    exact k q hq
end
end Fs

set_option Elab.async false
set_option maxRecDepth 100000
set_option maxHeartbeats 2000000
namespace Fs
open PySem PySem.Spec PyProof.Rows L2
open PySem.W (Codec)
theorem iteB {b : Bool} {A B : Prop} (h1 : b = true → A) (h2 : b = false → B) : if b = true then A else B := by
  cases b with
  | true => exact iteT (h1 rfl)
  | false => exact iteF (h2 rfl)
def between (lo hi : Int) (ns : List Int) : Bool := ns.all fun n => decide (lo ≤ n) && decide (n ≤ hi)
def forestOk (wd : Int) (ns : List Int) : Bool :=
  (decide ((ns.length : Int) % 2 = 0) && fullRows wd ((ns.length : Int) / 2)) && (between 0 60 (evens ns) && between 0 1000 (odds ns))
section
variable {P : Program} {w : World} {K : PySem.W.Frag} {mg : Str → Option Value} {base : Heap} {a : Ads}
theorem evens_le {α : Type} : ∀ l : List α, (evens l).length ≤ l.length
  | [] => Nat.le_refl _
  | [_] => Nat.le_refl _
  | a :: b :: l => by
    have := evens_le l
    show (evens l).length + 1 ≤ l.length + 1 + 1
    omega
theorem odds_le {α : Type} : ∀ l : List α, (odds l).length ≤ l.length
  | [] => Nat.le_refl _
  | [_] => by show 0 ≤ 1; decide
  | a :: b :: l => by
    have := odds_le l
    show (odds l).length + 1 ≤ l.length + 1 + 1
    omega
def sp_is_forest (K : PySem.W.Frag) : Sp := fun vs H Q _ => ∃ (wd : Int) (p : Addr) (ns : List Int), vs = [.int wd, .ref p] ∧ Ints K H p ns ∧ ns.length ≤ 100000 ∧ ∀ H', Same H H' → Q (.bl (forestOk wd ns)) H'
theorem ok_is_forest (T : Txt K mg a) : FnOk P w K mg base CX0 2 a.f_is_forest a.d_is_forest ["wide", "places"] (sp_is_forest K) := by
  refine T.F_is_forest.ok sc_is_forest (fun vs H Q E h => ?_) (fun cdv A outer s H vs Q E hr h => ?_)
  · obtain ⟨wd, p, ns, rfl, _⟩ := h
    rfl
  · obtain ⟨wd, p, ns, rfl, hS, hl, k⟩ := h
    obtain ⟨t1, g1⟩ := T.k_SLOWEST
    obtain ⟨t2, g2⟩ := T.k_MOST_WORTH
    refine ⟨_, pss_cons (ps_if (pw_or (pt_cmpR op_ne (pe_op op_mod (pe_callB call_len_seq (by rfl) T.b_len PySem.boot_len (pa_cons (pv 1) pa_nil)) pe_int) pe_int (nomark _))
        (pw_or1 (pt_not (pt_val (pe_call (ok_are_full_rows T) hr (by rfl) T.g_are_full_rows T.F_are_full_rows.kp T.B_are_full_rows .nil pass0 (pa_cons (pv 0) (pa_cons (pe_op op_fdiv (pe_callB call_len_seq (by rfl) T.b_len PySem.boot_len (pa_cons (pv 1) pa_nil)) pe_int) pa_nil))))))).pt (pss_one (ps_ret pe_bl)) pss_nil)
      (pss_one (ps_ret (pe_and (pe_call (ok_all_between T) hr (by rfl) T.g_all_between T.F_all_between.kp T.B_all_between .nil pass0 (pa_cons (pe_call (ok_slowness_of T) hr (by rfl) T.g_slowness_of T.F_slowness_of.kp T.B_slowness_of .nil pass0 (pa_cons (pv 1) pa_nil)) (pa_cons pe_int (pa_cons (pe_glob (v := .int 60) (by rfl) g1 ⟨_, rfl⟩) pa_nil))))
        (pe_one (pe_call (ok_all_between T) hr (by rfl) T.g_all_between T.F_all_between.kp T.B_all_between .nil pass0 (pa_cons (pe_call (ok_worth_of T) hr (by rfl) T.g_worth_of T.F_worth_of.kp T.B_worth_of .nil pass0 (pa_cons (pv 1) pa_nil)) (pa_cons pe_int (pa_cons (pe_glob (v := .int 1000) (by rfl) g2 ⟨_, rfl⟩) pa_nil)))))))), ?_⟩
    unfold forestOk at k
    have el : ((ns.map V.int).length : Int) = (ns.length : Int) := by rw [List.length_map]
    refine ⟨_, rfl, p, _, rfl, .inl hS, _, _, rfl, rfl, (by show (0 : Int) < 2; decide), rfl, _, rfl, ?_⟩
    rw [el]
    refine iteB (fun c1 => ?_) (fun c1 => ?_)
    · have d1 : decide ((ns.length : Int) % 2 = 0) = false := by simpa using c1
      rw [d1] at k
      exact iteT (k _ (Same.refl H))
    · have d1 : decide ((ns.length : Int) % 2 = 0) = true := by simpa using c1
      rw [d1] at k
      refine ⟨_, rfl, _, rfl, p, _, rfl, .inl hS, _, _, rfl, rfl, ⟨by decide, by decide⟩, wd, _, rfl, _, rfl, ?_⟩
      rw [el]
      cases d2 : fullRows wd ((ns.length : Int) / 2) with
      | false =>
        rw [d2] at k
        exact iteT (k _ (Same.refl H))
      | true =>
        rw [d2] at k
        refine iteF ?_
        refine ⟨_, rfl, p, _, rfl, hS, fun q hq => ?_⟩
        rw [evens_map]
        refine ⟨q, evens ns, 0, 60, rfl, SqL.of upd_same, (Nat.le_trans (evens_le ns) hl), fun H1 s1 => ?_⟩
        have s01 : Same H H1 := (same_upd hq).trans s1
        change ∃ c, V.bl (between 0 60 (evens ns)) = V.bl c ∧ _
        cases d3 : between 0 60 (evens ns) with
        | false =>
          rw [d3] at k
          exact ⟨_, rfl, iteF (k _ s01)⟩
        | true =>
          rw [d3] at k
          refine ⟨_, rfl, iteT ⟨_, rfl, p, _, rfl, s01.seq hS, fun q2 hq2 => ?_⟩⟩
          rw [odds_map]
          refine ⟨q2, odds ns, 0, 1000, rfl, SqL.of upd_same, (Nat.le_trans (odds_le ns) hl), fun H2 s2 => ?_⟩
          exact k _ (s01.trans ((same_upd hq2).trans s2))
end
end Fs

set_option Elab.async false
set_option maxRecDepth 100000
set_option maxHeartbeats 2000000
namespace Fs
open PySem PySem.Spec PyProof.Rows L2
open PySem.W (Codec)
/-- a list of naturals as values -/
def nv (l : List Nat) : List V := l.map fun (n : Nat) => V.int (n : Int)
def ni (l : List Nat) : List Int := l.map fun (n : Nat) => (n : Int)
theorem nv_ni (l : List Nat) : nv l = (ni l).map V.int := by
  unfold nv ni
  rw [List.map_map]
  rfl
def fDay (pw : Addr) (m : Int) (ph : Addr) : List (Str × V) := [("wind", .ref pw), ("minutes", .int m), ("where", .ref ph)]
def fSeason (wd : Int) (ps pw pd : Addr) : List (Str × V) := [("wide", .int wd), ("slowness", .ref ps), ("worth", .ref pw), ("days", .ref pd)]
def fReader (pc : Addr) (i : Int) : List (Str × V) := [("calls", .ref pc), ("position", .int i)]
/-- all but what stands at p stays -/
def But (p : Addr) (H H' : Hp) : Prop := ∀ b o, H b = some o → b ≠ p → H' b = some o
section
variable {P : Program} {w : World} {K : PySem.W.Frag} {mg : Str → Option Value} {base : Heap} {a : Ads}
/-! Day -/
def sp_Day_init (C : Addr) : Sp := fun vs H Q _ => ∃ (p dx pw ph : Addr) (m : Int), vs = [.ref p, .ref pw, .int m, .ref ph] ∧ H p = some (.ins C dx []) ∧ Q .non (upd H p (.ins C dx (fDay pw m ph)))
theorem ok_Day_init (T : Txt K mg a) : FnOk P w K mg base CX0 1 a.f_Day_init a.d_Day_init ["self", "wind", "minutes", "where"] (sp_Day_init a.c_Day) := by
  refine T.F_Day_init.ok sc_Day_init (fun vs H Q E h => ?_) (fun cdv A outer s H vs Q E hr h => ?_)
  · obtain ⟨p, dx, pw, ph, m, rfl, _⟩ := h
    rfl
  · obtain ⟨p, dx, pw, ph, m, rfl, hp, k⟩ := h
    refine ⟨_, pss_cons (ps_fld (pv 0) (pv 1) rfl) (pss_cons (ps_fld (pv 0) (pv 2) rfl) (pss_one (ps_fld (pv 0) (pv 3) rfl))), ?_⟩
    refine ⟨_, rfl, _, rfl, p, _, dx, _, rfl, hp, T.cl_Day, T.n_Day_wind, (by show 0 < 1000; decide), ?_⟩
    refine ⟨_, rfl, _, rfl, p, _, dx, _, rfl, upd_same, T.cl_Day, T.n_Day_minutes, (by show 1 < 1000; decide), ?_⟩
    refine ⟨_, rfl, _, rfl, p, _, dx, _, rfl, upd_same, T.cl_Day, T.n_Day_where, (by show 2 < 1000; decide), ?_⟩
    rw [upd_upd, upd_upd]
    exact k
/-- a Day stands at p -/
structure DayAt (C : Addr) (O : Addr → Prop) (H : Hp) (p : Addr) (d : Uw01.Day) : Prop where
  ex : ∃ dx pw ph, H p = some (.ins C dx (fDay pw (d.minutes : Int) ph)) ∧ H pw = some (.lst (nv d.wind)) ∧ H ph = some (.lst (nv d.strikes)) ∧ O pw ∧ O ph
theorem DayAt.same {C : Addr} {O : Addr → Prop} {H H' : Hp} {p : Addr} {d : Uw01.Day} (h : DayAt C O H p d) (s : Same H H') : DayAt C O H' p d := by
  obtain ⟨dx, pw, ph, h1, h2, h3, o⟩ := h.ex
  exact ⟨dx, pw, ph, s _ _ h1, s _ _ h2, s _ _ h3, o⟩
def dayTold (c : Int) (d : Uw01.Day) : Bool := (between 1 9 (ni d.wind) && decide ((d.minutes : Int) ≤ 100000)) && (between 0 (c - 1) (ni d.strikes) && risingI (ni d.strikes))
def sp_Day_is_as_told (C : Addr) : Sp := fun vs H Q _ => ∃ (p : Addr) (c : Int) (d : Uw01.Day), vs = [.ref p, .int c] ∧ (∃ O, DayAt C O H p d) ∧ d.wind.length ≤ 100000 ∧ d.strikes.length ≤ 100000 ∧ ∀ H', Same H H' → Q (.bl (dayTold c d)) H'
theorem ok_Day_is_as_told (T : Txt K mg a) : FnOk P w K mg base CX0 2 a.f_Day_is_as_told a.d_Day_is_as_told ["self", "count"] (sp_Day_is_as_told a.c_Day) := by
  refine T.F_Day_is_as_told.ok sc_Day_is_as_told (fun vs H Q E h => ?_) (fun cdv A outer s H vs Q E hr h => ?_)
  · obtain ⟨p, c, d, rfl, _⟩ := h
    rfl
  · obtain ⟨p, c, d, rfl, hd, l1, l2, k⟩ := h
    obtain ⟨O, hd⟩ := hd
    obtain ⟨dx, pw, ph, h1, h2, h3, _⟩ := hd.ex
    obtain ⟨t1, g1⟩ := T.k_STRONGEST_WIND
    obtain ⟨t2, g2⟩ := T.k_MOST_MINUTES
    refine ⟨_, pss_cons (ps_if (pw_or (pt_not (pt_val (pe_call (ok_all_between T) hr (by rfl) T.g_all_between T.F_all_between.kp T.B_all_between .nil pass0 (pa_cons (pe_fld (pv 0) rfl) (pa_cons pe_int (pa_cons (pe_glob (v := .int 9) (by rfl) g1 ⟨_, rfl⟩) pa_nil))))))
        (pw_or1 (pt_not (pt_chain op_le op_le pe_int (pe_fld (pv 0) rfl) (pe_glob (v := .int 100000) (by rfl) g2 ⟨_, rfl⟩))))).pt (pss_one (ps_ret pe_bl)) pss_nil)
      (pss_one (ps_ret (pe_and (pe_call (ok_all_between T) hr (by rfl) T.g_all_between T.F_all_between.kp T.B_all_between .nil pass0 (pa_cons (pe_fld (pv 0) rfl) (pa_cons pe_int (pa_cons (pe_op op_sub (pv 1) pe_int) pa_nil))))
        (pe_one (pe_call (ok_is_rising T) hr (by rfl) T.g_is_rising T.F_is_rising.kp T.B_is_rising .nil pass0 (pa_cons (pe_fld (pv 0) rfl) pa_nil)))))), ?_⟩
    unfold dayTold at k
    rw [nv_ni] at h2 h3
    have e1 : (ni d.wind).length = d.wind.length := by unfold ni; rw [List.length_map]
    have e2 : (ni d.strikes).length = d.strikes.length := by unfold ni; rw [List.length_map]
    refine ⟨_, rfl, p, _, dx, _, _, rfl, h1, T.cl_Day, T.n_Day_wind, rfl, pw, ni d.wind, 1, 9, rfl, SqL.of h2, (by rw [e1]; exact l1), fun H1 s1 => ?_⟩
    change ∃ c', V.bl (between 1 9 (ni d.wind)) = V.bl c' ∧ _
    cases d1 : between 1 9 (ni d.wind) with
    | false =>
      rw [d1] at k
      exact ⟨_, rfl, iteT (iteT (k _ s1))⟩
    | true =>
      rw [d1] at k
      refine ⟨_, rfl, iteF ⟨_, rfl, p, _, dx, _, _, rfl, s1 _ _ h1, T.cl_Day, T.n_Day_minutes, rfl, _, _, rfl, rfl, _, rfl, iteB (fun c1 => ⟨_, _, rfl, rfl, _, rfl, ?_⟩) (fun c1 => ?_)⟩⟩
      · refine iteB (fun c2 => ?_) (fun c2 => ?_)
        · have d2 : decide ((d.minutes : Int) ≤ 100000) = false := by simpa using c2
          rw [d2] at k
          exact k _ s1
        · have d2 : decide ((d.minutes : Int) ≤ 100000) = true := by simpa using c2
          rw [d2] at k
          refine ⟨_, rfl, p, _, dx, _, _, rfl, s1 _ _ h1, T.cl_Day, T.n_Day_where, rfl, _, rfl, _, _, rfl, rfl, ph, ni d.strikes, 0, c - 1, rfl, SqL.of (s1 _ _ h3), (by rw [e2]; exact l2), fun H2 s2 => ?_⟩
          change ∃ c', V.bl (between 0 (c - 1) (ni d.strikes)) = V.bl c' ∧ _
          cases d3 : between 0 (c - 1) (ni d.strikes) with
          | false =>
            rw [d3] at k
            exact ⟨_, rfl, iteF (k _ (s1.trans s2))⟩
          | true =>
            rw [d3] at k
            exact ⟨_, rfl, iteT ⟨_, rfl, p, _, dx, _, _, rfl, s2 _ _ (s1 _ _ h1), T.cl_Day, T.n_Day_where, rfl, ph, ni d.strikes, rfl, SqL.of (s2 _ _ (s1 _ _ h3)), (by rw [e2]; exact l2), fun H3 s3 => k _ ((s1.trans s2).trans s3)⟩⟩
      · exfalso
        have c1' : decide ((0 : Int) ≤ (d.minutes : Int)) = false := c1
        have := of_decide_eq_false c1'
        omega
end
end Fs

set_option Elab.async false
set_option maxRecDepth 100000
set_option maxHeartbeats 2000000
namespace Fs
open PySem PySem.Spec PyProof.Rows L2
open PySem.W (Codec)
/-- all but p and q stays -/
def But2 (p q : Addr) (H H' : Hp) : Prop := ∀ b o, H b = some o → b ≠ p → b ≠ q → H' b = some o
structure SeasonAt (a : Ads) (H : Hp) (p pd : Addr) (O : Addr → Prop) (s : Uw01.Season) : Prop where
  ex : ∃ (dx ps pw : Addr) (wd : Int) (ds : List Addr), H p = some (.ins a.c_Season dx (fSeason wd ps pw pd)) ∧ (s.places = [] ∨ wd = (s.width : Int)) ∧
    H ps = some (.lst (nv (s.places.map (·.slow)))) ∧ H pw = some (.lst (nv (s.places.map (·.worth)))) ∧ H pd = some (.lst (ds.map V.ref)) ∧ pd ≠ ps ∧ pd ≠ pw ∧
    ds.length = s.days.length ∧ (∀ (i : Nat) (q : Addr) (d : Uw01.Day), ds[i]? = some q → s.days[i]? = some d → DayAt a.c_Day O H q d) ∧ O ps ∧ O pw
theorem refs_ne_nv {ds : List Addr} {l : List Nat} (h : ds ≠ []) : (HO.lst (ds.map V.ref)) ≠ HO.lst (nv l) := by
  cases ds with
  | nil => exact absurd rfl h
  | cons q ds =>
    cases l with
    | nil => intro e; cases e
    | cons n l => intro e; cases e
theorem DayAt.keep {C : Addr} {O : Addr → Prop} {H H' : Hp} {p : Addr} {d : Uw01.Day} (h : DayAt C O H p d) (s : ∀ b o, H b = some o → (o = .lst (nv d.wind) ∨ o = .lst (nv d.strikes) ∨ ∃ dx fs, o = .ins C dx fs) → H' b = some o) : DayAt C O H' p d := by
  obtain ⟨dx, pw, ph, h1, h2, h3, o⟩ := h.ex
  exact ⟨dx, pw, ph, s _ _ h1 (.inr (.inr ⟨_, _, rfl⟩)), s _ _ h2 (.inl rfl), s _ _ h3 (.inr (.inl rfl)), o⟩
theorem DayAt.mono {C : Addr} {O O' : Addr → Prop} {H : Hp} {p : Addr} {d : Uw01.Day} (h : DayAt C O H p d) (s : ∀ b, O b → O' b) : DayAt C O' H p d := by
  obtain ⟨dx, pw, ph, h1, h2, h3, o1, o2⟩ := h.ex
  exact ⟨dx, pw, ph, h1, h2, h3, s _ o1, s _ o2⟩
section
variable {P : Program} {w : World} {K : PySem.W.Frag} {mg : Str → Option Value} {base : Heap} {a : Ads}
theorem upd3 {H : Hp} {p l : Addr} {o o' : HO} (h : l ≠ p) : upd (upd (upd H p o) l o') p o = upd (upd H p o) l o' := by
  funext b
  by_cases e : b = p
  · subst e
    rw [upd_same, upd_ne h.symm, upd_same]
  · rw [upd_ne e]
theorem SqL.ins {H : Hp} {p q C dx : Addr} {fs : List (Str × V)} {o : HO} {xs : List V} (h : SqL K H q xs) (hp : H p = some (.ins C dx fs)) : SqL K (upd H p o) q xs := by
  rcases h with (h | ⟨ob, h⟩) | h
  · exact .inl (.inl (by rw [upd_ne (ne_of h hp (by intro z; cases z))]; exact h))
  · exact .inl (.inr ⟨ob, by rw [upd_ne (ne_of h hp (by intro z; cases z))]; exact h⟩)
  · exact .inr h
def sp_Season_init (a : Ads) : Sp := fun vs H Q _ => ∃ (p dx : Addr), vs = [.ref p] ∧ H p = some (.ins a.c_Season dx []) ∧ ∀ H' pd (O : Addr → Prop), H pd = none → (∀ b, O b → ∃ o, H' b = some o) → SeasonAt a H' p pd O Uw01.init → But p H H' → Q .non H'
theorem ok_Season_init (T : Txt K mg a) : FnOk P w K mg base CX0 1 a.f_Season_init a.d_Season_init ["self"] (sp_Season_init a) := by
  refine T.F_Season_init.ok sc_Season_init (fun vs H Q E h => ?_) (fun cdv A outer s H vs Q E hr h => ?_)
  · obtain ⟨p, dx, rfl, _⟩ := h
    rfl
  · obtain ⟨p, dx, rfl, hp, k⟩ := h
    refine ⟨_, pss_cons (ps_fld (pv 0) pe_int rfl) (pss_cons (ps_fld (pv 0) (pe_lst pa_nil) rfl) (pss_cons (ps_fld (pv 0) (pe_lst pa_nil) rfl) (pss_one (ps_fld (pv 0) (pe_lst pa_nil) rfl)))), ?_⟩
    refine ⟨_, rfl, p, _, dx, _, rfl, hp, T.cl_Season, T.n_Season_wide, (by show 0 < 1000; decide), ?_⟩
    refine ⟨Nat.zero_le _, fun l1 n1 => ⟨_, rfl, p, _, dx, _, rfl, by rw [upd_ne (ne_of_none upd_same n1)]; exact upd_same, T.cl_Season, T.n_Season_slowness, (by show 1 < 1000; decide), ?_⟩⟩
    refine ⟨Nat.zero_le _, fun l2 n2 => ⟨_, rfl, p, _, dx, _, rfl, by rw [upd_ne (ne_of_none upd_same n2)]; exact upd_same, T.cl_Season, T.n_Season_worth, (by show 2 < 1000; decide), ?_⟩⟩
    refine ⟨Nat.zero_le _, fun l3 n3 => ⟨_, rfl, p, _, dx, _, rfl, by rw [upd_ne (ne_of_none upd_same n3)]; exact upd_same, T.cl_Season, T.n_Season_days, (by show 3 < 1000; decide), ?_⟩⟩
    have q1 : p ≠ l1 := ne_of_none upd_same n1
    have q2 : p ≠ l2 := ne_of_none upd_same n2
    have q3 : p ≠ l3 := ne_of_none upd_same n3
    rw [upd_ne q1.symm] at n1
    have h12 : l1 ≠ l2 := by
      intro e
      subst e
      rw [upd_ne q1.symm, upd_same] at n2
      cases n2
    rw [upd_ne q2.symm, upd_ne h12.symm, upd_ne q2.symm] at n2
    have h23 : l2 ≠ l3 := by
      intro e
      subst e
      rw [upd_ne q2.symm, upd_same] at n3
      cases n3
    have h13 : l1 ≠ l3 := by
      intro e
      subst e
      rw [upd_ne q1.symm, upd_ne h12, upd_ne q1.symm, upd_same] at n3
      cases n3
    rw [upd_ne q3.symm, upd_ne h23.symm, upd_ne q3.symm, upd_ne h13.symm, upd_ne q3.symm] at n3
    refine k _ l3 (fun b => b = l1 ∨ b = l2) n3 ?oo ⟨dx, l1, l2, 0, [], upd_same, .inl rfl, ?_, ?_, ?_, h13.symm, h23.symm, rfl, fun i q d e => (by simp at e), .inl rfl, .inr rfl⟩ (fun b o e hb => ?_)
    case oo =>
      intro b ob
      rcases ob with rfl | rfl
      · exact ⟨_, by rw [upd_ne q1.symm, upd_ne h13, upd_ne q1.symm, upd_ne h12, upd_ne q1.symm, upd_same]⟩
      · exact ⟨_, by rw [upd_ne q2.symm, upd_ne h23, upd_ne q2.symm, upd_same]⟩
    · rw [upd_ne q1.symm, upd_ne h13, upd_ne q1.symm, upd_ne h12, upd_ne q1.symm, upd_same]
      rfl
    · rw [upd_ne q2.symm, upd_ne h23, upd_ne q2.symm, upd_same]
      rfl
    · rw [upd_ne q3.symm, upd_same]
      rfl
    · rw [upd_ne hb, upd_ne (ne_of_none e n3), upd_ne hb, upd_ne (ne_of_none e n2), upd_ne hb, upd_ne (ne_of_none e n1), upd_ne hb]
      exact e
/-! Season.begins -/
def plc : List Nat → List Sw96.Place
  | a :: b :: l => ⟨a, b⟩ :: plc l
  | _ => []
theorem evens_plc : ∀ l : List Nat, l.length % 2 = 0 → evens l = (plc l).map (·.slow) ∧ odds l = (plc l).map (·.worth) ∧ (plc l).length = l.length / 2
  | [], _ => ⟨rfl, rfl, rfl⟩
  | [_], h => by simp at h
  | a :: b :: l, h => by
    have h' : l.length % 2 = 0 := by simp only [List.length_cons] at h; omega
    obtain ⟨h1, h2, h3⟩ := evens_plc l h'
    refine ⟨?_, ?_, ?_⟩
    · show a :: evens l = a :: (plc l).map (·.slow)
      rw [h1]
    · show b :: odds l = b :: (plc l).map (·.worth)
      rw [h2]
    · show (plc l).length + 1 = (l.length + 1 + 1) / 2
      rw [h3]
      omega
theorem evens_nv (l : List Nat) : evens (nv l) = nv (evens l) := evens_map _ _
theorem odds_nv (l : List Nat) : odds (nv l) = nv (odds l) := odds_map _ _
def sp_Season_begins (K : PySem.W.Frag) (a : Ads) : Sp := fun vs H Q _ => ∃ (p pd q : Addr) (O : Addr → Prop) (s : Uw01.Season) (wd : Nat) (l : List Nat), vs = [.ref p, .int (wd : Int), .ref q] ∧ SeasonAt a H p pd O s ∧ SqL K H q (nv l) ∧ l.length ≤ 100000 ∧ l.length % 2 = 0 ∧
  ∀ H' pd' (O' : Addr → Prop), (pd' = pd ∨ H pd' = none) → (∀ b, O' b → O b ∨ H b = none) → SeasonAt a H' p pd' O' (if forestOk (wd : Int) (ni l) = true then ⟨wd, plc l, []⟩ else s) → But p H H' → Q (.int (if forestOk (wd : Int) (ni l) = true then ((plc l).length : Int) else -1)) H'
theorem SeasonAt.same {H H' : Hp} {p pd : Addr} {O : Addr → Prop} {s : Uw01.Season} (h : SeasonAt a H p pd O s) (e : Same H H') : SeasonAt a H' p pd O s := by
  obtain ⟨dx, ps, pw, wd, ds, h1, h2, h3, h4, h5, h6, h7, h8, h9, o⟩ := h.ex
  exact ⟨dx, ps, pw, wd, ds, e _ _ h1, h2, e _ _ h3, e _ _ h4, e _ _ h5, h6, h7, h8, fun i q d u v => (h9 i q d u v).same e, o⟩
theorem ok_Season_begins (T : Txt K mg a) : FnOk P w K mg base CX0 3 a.f_Season_begins a.d_Season_begins ["self", "wide", "places"] (sp_Season_begins K a) := by
  refine T.F_Season_begins.ok sc_Season_begins (fun vs H Q E h => ?_) (fun cdv A outer s H vs Q E hr h => ?_)
  · obtain ⟨p, pd, q, O, s, wd, l, rfl, _⟩ := h
    rfl
  · obtain ⟨p, pd, q, O, s, wd, l, rfl, hs, hq, hl, hev, k⟩ := h
    obtain ⟨dx, ps, pw, wd0, ds, h1, h2, h3, h4, h5, h6, h7, h8, h9, o1, o2⟩ := hs.ex
    obtain ⟨t1, g1⟩ := T.k_NOT_AS_TOLD
    have hr1 := hr.mono (j := 1) (by decide)
    refine ⟨_, pss_cons (ps_if (pt_not (pt_val (pe_call (ok_is_forest T) hr (by rfl) T.g_is_forest T.F_is_forest.kp T.B_is_forest .nil pass0 (pa_cons (pv 1) (pa_cons (pv 2) pa_nil))))) (pss_one (ps_ret (pe_glob (v := .int (-1)) (by rfl) g1 ⟨_, rfl⟩))) pss_nil)
      (pss_cons (ps_fld (pv 0) (pv 1) rfl)
      (pss_cons (ps_fld (pv 0) (pe_call (ok_slowness_of T) hr1 (by rfl) T.g_slowness_of T.F_slowness_of.kp T.B_slowness_of .nil pass0 (pa_cons (pv 2) pa_nil)) rfl)
      (pss_cons (ps_fld (pv 0) (pe_call (ok_worth_of T) hr1 (by rfl) T.g_worth_of T.F_worth_of.kp T.B_worth_of .nil pass0 (pa_cons (pv 2) pa_nil)) rfl)
      (pss_cons (ps_fld (pv 0) (pe_lst pa_nil) rfl)
      (pss_one (ps_ret (pe_callB call_len_seq (by rfl) T.b_len PySem.boot_len (pa_cons (pe_fld (pv 0) rfl) pa_nil)))))))), ?_⟩
    have hq' := hq
    rw [nv_ni] at hq'
    refine ⟨_, rfl, _, rfl, (wd : Int), q, ni l, rfl, hq', (by unfold ni; rw [List.length_map]; exact hl), fun H1 s1 => ?_⟩
    refine ⟨_, rfl, ?_⟩
    cases d1 : forestOk (wd : Int) (ni l) with
    | false =>
      refine iteT ?_
      rw [d1] at k
      exact k _ pd O (.inl rfl) (fun b z => .inl z) (hs.same s1) (fun b o e _ => s1 b o e)
    | true =>
      refine iteF ?_
      rw [d1] at k
      obtain ⟨v1, v2, v3⟩ := evens_plc l hev
      refine ⟨_, rfl, _, rfl, p, _, dx, _, rfl, s1 _ _ h1, T.cl_Season, T.n_Season_wide, (by show 4 < 1000; decide), ?_⟩
      refine ⟨_, rfl, q, nv l, rfl, SqL.ins (s1.seq hq) (s1 _ _ h1), fun l1 n1 => ⟨_, rfl, p, _, dx, _, rfl, by rw [upd_ne (ne_of_none upd_same n1)]; exact upd_same, T.cl_Season, T.n_Season_slowness, (by show 4 < 1000; decide), ?_⟩⟩
      have q1 : p ≠ l1 := ne_of_none upd_same n1
      refine ⟨_, rfl, q, nv l, rfl, SqL.ins ((same_upd n1).seq (SqL.ins (s1.seq hq) (s1 _ _ h1))) (by rw [upd_ne q1]; exact upd_same), fun l2 n2 => ⟨_, rfl, p, _, dx, _, rfl, by rw [upd_ne (ne_of_none upd_same n2)]; exact upd_same, T.cl_Season, T.n_Season_worth, (by show 4 < 1000; decide), ?_⟩⟩
      have q2 : p ≠ l2 := ne_of_none upd_same n2
      refine ⟨Nat.zero_le _, fun l3 n3 => ⟨_, rfl, p, _, dx, _, rfl, by rw [upd_ne (ne_of_none upd_same n3)]; exact upd_same, T.cl_Season, T.n_Season_days, (by show 4 < 1000; decide), ?_⟩⟩
      have q3 : p ≠ l3 := ne_of_none upd_same n3
      rw [upd_ne q1.symm] at n1
      have h12 : l1 ≠ l2 := by
        intro e
        subst e
        rw [upd_ne q1.symm, upd_same] at n2
        cases n2
      rw [upd_ne q2.symm, upd_ne h12.symm, upd_ne q2.symm] at n2
      have h23 : l2 ≠ l3 := by
        intro e
        subst e
        rw [upd_ne q2.symm, upd_same] at n3
        cases n3
      have h13 : l1 ≠ l3 := by
        intro e
        subst e
        rw [upd_ne q1.symm, upd_ne h12, upd_ne q1.symm, upd_same] at n3
        cases n3
      rw [upd_ne q3.symm, upd_ne h23.symm, upd_ne q3.symm, upd_ne h13.symm, upd_ne q3.symm] at n3
      have w1 : ∀ o1 o2 o3 o4 o5 o6, upd (upd (upd (upd (upd (upd (upd H1 p o1) l1 (.lst (evens (nv l)))) p o2) l2 o3) p o4) l3 o5) p o6 l1 = some (.lst (nv ((plc l).map (·.slow)))) := fun _ _ _ _ _ _ => by
        rw [upd_ne q1.symm, upd_ne h13, upd_ne q1.symm, upd_ne h12, upd_ne q1.symm, upd_same, evens_nv, v1]
      refine ⟨_, rfl, p, _, dx, _, _, rfl, upd_same, T.cl_Season, T.n_Season_slowness, rfl, l1, _, rfl, .inl (SqL.of (w1 _ _ _ _ _ _)), ?_⟩
      have e1 : ((nv ((plc l).map (·.slow))).length : Int) = ((plc l).length : Int) := by unfold nv; rw [List.length_map, List.length_map]
      rw [e1]
      refine k _ l3 (fun b => b = l1 ∨ b = l2) (.inr (s1.free n3)) (fun b ob => .inr (s1.free (by rcases ob with rfl | rfl <;> assumption))) ⟨dx, l1, l2, (wd : Int), [], upd_same, .inr rfl, w1 _ _ _ _ _ _, ?_, ?_, h13.symm, h23.symm, rfl, fun i q d e => (by simp at e), .inl rfl, .inr rfl⟩ (fun b o e hb => ?_)
      · rw [upd_ne q2.symm, upd_ne h23, upd_ne q2.symm, upd_same, odds_nv, v2]
        rfl
      · rw [upd_ne q3.symm, upd_same]
        rfl
      · have e' := s1 _ _ e
        rw [upd_ne hb, upd_ne (ne_of_none e' n3), upd_ne hb, upd_ne (ne_of_none e' n2), upd_ne hb, upd_ne (ne_of_none e' n1), upd_ne hb]
        exact e'
end
end Fs

set_option Elab.async false
set_option maxRecDepth 100000
set_option maxHeartbeats 2000000
namespace Fs
open PySem PySem.Spec PyProof.Rows L2
open PySem.W (Codec)
section
variable {P : Program} {w : World} {K : PySem.W.Frag} {mg : Str → Option Value} {base : Heap} {a : Ads}
def dayStep (s : Uw01.Season) (d : Uw01.Day) : Uw01.Season × Int :=
  if dayTold (s.places.length : Int) d = true then (if 3 ≤ s.days.length then (s, -5) else ({ s with days := s.days ++ [d] }, (s.days.length : Int) + 1)) else (s, -1)
def sp_Season_day (a : Ads) : Sp := fun vs H Q _ => ∃ (p pd qw qh : Addr) (O : Addr → Prop) (s : Uw01.Season) (d : Uw01.Day), vs = [.ref p, .ref qw, .int (d.minutes : Int), .ref qh] ∧ SeasonAt a H p pd O s ∧ H qw = some (.lst (nv d.wind)) ∧ H qh = some (.lst (nv d.strikes)) ∧ qw ≠ pd ∧ qh ≠ pd ∧
  d.wind.length ≤ 100000 ∧ d.strikes.length ≤ 100000 ∧ ∀ H', SeasonAt a H' p pd (fun b => O b ∨ b = qw ∨ b = qh) (dayStep s d).1 → But pd H H' → Q (.int (dayStep s d).2) H'
theorem nv_len (l : List Nat) : (nv l).length = l.length := by unfold nv; rw [List.length_map]
/-- the list of days is written: all else of the season stays -/
theorem SeasonAt.days {H H' : Hp} {p pd : Addr} {O O' : Addr → Prop} {s : Uw01.Season} (h : SeasonAt a H p pd O s) (ho : ∀ b, O b → O' b) (k : But pd H H') {ds' : List Addr} {days' : List Uw01.Day} (hd : H' pd = some (.lst (ds'.map V.ref))) (hl : ds'.length = days'.length)
    (hx : ∀ (i : Nat) (q : Addr) (d : Uw01.Day), ds'[i]? = some q → days'[i]? = some d → DayAt a.c_Day O' H' q d) : SeasonAt a H' p pd O' { s with days := days' } := by
  obtain ⟨dx, ps, pw, wd, ds, h1, h2, h3, h4, h5, h6, h7, h8, h9, o1, o2⟩ := h.ex
  exact ⟨dx, ps, pw, wd, ds', k _ _ h1 (ne_of h1 h5 (by intro z; cases z)), h2, k _ _ h3 h6.symm, k _ _ h4 h7.symm, hd, h6, h7, hl, hx, ho _ o1, ho _ o2⟩
theorem SeasonAt.mono {H : Hp} {p pd : Addr} {O O' : Addr → Prop} {s : Uw01.Season} (h : SeasonAt a H p pd O s) (ho : ∀ b, O b → O' b) : SeasonAt a H p pd O' s := by
  obtain ⟨dx, ps, pw, wd, ds, h1, h2, h3, h4, h5, h6, h7, h8, h9, o1, o2⟩ := h.ex
  exact ⟨dx, ps, pw, wd, ds, h1, h2, h3, h4, h5, h6, h7, h8, fun i q d u v => (h9 i q d u v).mono ho, ho _ o1, ho _ o2⟩
theorem DayAt.but {H H' : Hp} {C q pd : Addr} {O : Addr → Prop} {d : Uw01.Day} {ds : List Addr} (h : DayAt C O H q d) (hp : H pd = some (.lst (ds.map V.ref))) (hn : ds ≠ []) (k : But pd H H') : DayAt C O H' q d := by
  refine h.keep fun b o e ho => k b o e (ne_of e hp ?_)
  rcases ho with rfl | rfl | ⟨_, _, rfl⟩
  · exact fun z => refs_ne_nv hn z.symm
  · exact fun z => refs_ne_nv hn z.symm
  · intro z
    cases z
theorem ok_Season_day (T : Txt K mg a) : FnOk P w K mg base CX0 3 a.f_Season_day a.d_Season_day ["self", "wind", "minutes", "where"] (sp_Season_day a) := by
  refine T.F_Season_day.ok sc_Season_day (fun vs H Q E h => ?_) (fun cdv A outer s H vs Q E hr h => ?_)
  · obtain ⟨p, pd, qw, qh, O, s, d, rfl, _⟩ := h
    rfl
  · obtain ⟨p, pd, qw, qh, O, s, d, rfl, hs, hw, hh, nw, nh, l1, l2, k⟩ := h
    obtain ⟨dx, ps, pw, wd0, ds, h1, h2, h3, h4, h5, h6, h7, h8, h9, o1, o2⟩ := hs.ex
    obtain ⟨t1, g1⟩ := T.k_NOT_AS_TOLD
    obtain ⟨t2, g2⟩ := T.k_ENOUGH_DAYS
    obtain ⟨t3, g3⟩ := T.k_MOST_DAYS
    refine ⟨_, pss_cons (ps_set (i := 4) sc_Season_day.nd rfl (Or.inl rfl) (pe_make T.mk_Day (ok_Day_init T) hr (by rfl) T.g_Day T.B_Day_init .nil pass0 (pa_cons (pv 1) (pa_cons (pv 2) (pa_cons (pv 3) pa_nil)))))
      (pss_cons (ps_if (pt_not (pt_val (pe_meth (pv 4) T.cl_Day T.me_Day_is_as_told (ok_Day_is_as_told T) hr T.B_Day_is_as_told .nil pass0 (pa_cons (pe_callB call_len_seq (by rfl) T.b_len PySem.boot_len (pa_cons (pe_fld (pv 0) rfl) pa_nil)) pa_nil)))) (pss_one (ps_ret (pe_glob (v := .int (-1)) (by rfl) g1 ⟨_, rfl⟩))) pss_nil)
      (pss_cons (ps_if (pt_cmpR op_ge (pe_callB call_len_seq (by rfl) T.b_len PySem.boot_len (pa_cons (pe_fld (pv 0) rfl) pa_nil)) (pe_glob (v := .int 3) (by rfl) g3 ⟨_, rfl⟩) (nomark _)) (pss_one (ps_ret (pe_glob (v := .int (-5)) (by rfl) g2 ⟨_, rfl⟩))) pss_nil)
      (pss_cons (ps_expr (pe_bm PySem.F.plainAttrs_list PySem.F.slot_list_append PySem.F.type_list_append mt_append (pe_fld (pv 0) rfl) (pa_cons (pv 4) pa_nil)))
      (pss_one (ps_ret (pe_callB call_len_seq (by rfl) T.b_len PySem.boot_len (pa_cons (pe_fld (pv 0) rfl) pa_nil))))))), ?_⟩
    refine ⟨_, rfl, _, rfl, _, rfl, fun x dx' nx nd ne => ?_⟩
    refine ⟨x, dx', qw, qh, (d.minutes : Int), rfl, upd_same, rfl, ?_⟩
    rw [upd_upd]
    have s0 : Same H (upd (upd H dx' (.own x)) x (.ins a.c_Day dx' (fDay qw (d.minutes : Int) qh))) := fun b o e => by
      rw [upd_ne (ne_of_none e nx), upd_ne (ne_of_none e nd)]
      exact e
    have hx : (upd (upd H dx' (.own x)) x (.ins a.c_Day dx' (fDay qw (d.minutes : Int) qh))) x = some (.ins a.c_Day dx' (fDay qw (d.minutes : Int) qh)) := upd_same
    generalize (upd (upd H dx' (.own x)) x (.ins a.c_Day dx' (fDay qw (d.minutes : Int) qh))) = H0 at s0 hx ⊢
    have hd : DayAt a.c_Day (fun b => O b ∨ b = qw ∨ b = qh) H0 x d := ⟨dx', qw, qh, hx, s0 _ _ hw, s0 _ _ hh, .inr (.inl rfl), .inr (.inr rfl)⟩
    have npx : x ≠ pd := ne_of hx (s0 _ _ h5) (by intro z; cases z)
    refine ⟨_, rfl, x, dx', _, rfl, hx, rfl, _, rfl, p, _, dx, _, _, rfl, s0 _ _ h1, T.cl_Season, T.n_Season_slowness, rfl, ps, _, rfl, .inl (SqL.of (s0 _ _ h3)), x, _, d, rfl, ⟨_, hd⟩, l1, l2, fun H1 s1 => ⟨_, rfl, ?_⟩⟩
    have e1 : ((nv (s.places.map (·.slow))).length : Int) = (s.places.length : Int) := by rw [nv_len, List.length_map]
    have s01 := s0.trans s1
    rw [e1]
    unfold dayStep at k
    cases d1 : dayTold (s.places.length : Int) d with
    | false =>
      rw [d1] at k
      refine iteT ?_
      rw [if_neg (by decide)] at k
      exact k _ ((hs.same s01).mono fun b z => .inl z) (fun b o e _ => s01 b o e)
    | true =>
      rw [d1, if_pos rfl] at k
      refine iteF ?_
      have e2 : (((ds.map V.ref).length : Nat) : Int) = (s.days.length : Int) := by rw [List.length_map, h8]
      refine ⟨_, rfl, p, _, dx, _, _, rfl, s01 _ _ h1, T.cl_Season, T.n_Season_days, rfl, pd, _, rfl, .inl (SqL.of (s01 _ _ h5)), _, _, rfl, rfl, _, rfl, ?_⟩
      rw [e2]
      refine iteB (fun c => ?_) (fun c => ?_)
      · have c' : 3 ≤ s.days.length := by
          have := of_decide_eq_true c
          omega
        rw [if_pos c'] at k
        exact k _ ((hs.same s01).mono fun b z => .inl z) (fun b o e _ => s01 b o e)
      · have c' : ¬ 3 ≤ s.days.length := by
          have := of_decide_eq_false c
          omega
        rw [if_neg c'] at k
        refine ⟨_, rfl, p, _, dx, _, _, rfl, s01 _ _ h1, T.cl_Season, T.n_Season_days, rfl, .inl ⟨rfl, _, SqL.of (s01 _ _ h5)⟩, _, rfl, pd, _, _, rfl, rfl, s01 _ _ h5, (by rw [List.length_map, h8]; exact small1000 (by omega)), ?_⟩
        have kb : But pd H1 (upd H1 pd (.lst (ds.map V.ref ++ [V.ref x]))) := fun b o e hb => by rw [upd_ne hb]; exact e
        have kB : But pd H (upd H1 pd (.lst (ds.map V.ref ++ [V.ref x]))) := fun b o e hb => kb b o (s01 b o e) hb
        have hpd : (upd H1 pd (.lst (ds.map V.ref ++ [V.ref x]))) pd = some (.lst ((ds ++ [x]).map V.ref)) := by rw [upd_same, List.map_append]; rfl
        have hS : SeasonAt a (upd H1 pd (.lst (ds.map V.ref ++ [V.ref x]))) p pd (fun b => O b ∨ b = qw ∨ b = qh) { s with days := s.days ++ [d] } := by
          refine hs.days (fun b z => .inl z) kB hpd (by rw [List.length_append, List.length_append, h8]; rfl) fun i q d' u v => ?_
          by_cases hi : i < ds.length
          · rw [List.getElem?_append_left hi] at u
            rw [List.getElem?_append_left (by rw [← h8]; exact hi)] at v
            exact ((h9 i q d' u v).but h5 (by intro z; rw [z] at hi; simp at hi) kB).mono fun b z => .inl z
          · have hi' : i = ds.length := by
              have := (List.getElem?_eq_some_iff.mp u).1
              rw [List.length_append] at this
              simp at this
              omega
            subst hi'
            rw [List.getElem?_append_right (Nat.le_refl _)] at u
            rw [h8, List.getElem?_append_right (Nat.le_refl _)] at v
            simp at u v
            subst u
            subst v
            exact ⟨dx', qw, qh, kb _ _ (s1 _ _ hx) npx, kb _ _ (s01 _ _ hw) nw, kb _ _ (s01 _ _ hh) nh, .inr (.inl rfl), .inr (.inr rfl)⟩
        refine ⟨_, rfl, p, _, dx, _, _, rfl, kB _ _ h1 (ne_of h1 h5 (by intro z; cases z)), T.cl_Season, T.n_Season_days, rfl, pd, _, rfl, .inl (SqL.of hpd), ?_⟩
        have e3 : ((((ds ++ [x]).map V.ref).length : Nat) : Int) = (s.days.length : Int) + 1 := by rw [List.length_map, List.length_append, h8]; rfl
        rw [e3]
        exact k _ hS kB
def dropStep (s : Uw01.Season) : Uw01.Season × Int := if s.days = [] then (s, -4) else ({ s with days := s.days.dropLast }, ((s.days.length - 1 : Nat) : Int))
def sp_Season_drop (a : Ads) : Sp := fun vs H Q _ => ∃ (p pd : Addr) (O : Addr → Prop) (s : Uw01.Season), vs = [.ref p] ∧ SeasonAt a H p pd O s ∧ ∀ H', SeasonAt a H' p pd O (dropStep s).1 → But pd H H' → Q (.int (dropStep s).2) H'
theorem ok_Season_drop (T : Txt K mg a) : FnOk P w K mg base CX0 1 a.f_Season_drop a.d_Season_drop ["self"] (sp_Season_drop a) := by
  refine T.F_Season_drop.ok sc_Season_drop (fun vs H Q E h => ?_) (fun cdv A outer s H vs Q E hr h => ?_)
  · obtain ⟨p, pd, O, s, rfl, _⟩ := h
    rfl
  · obtain ⟨p, pd, O, s, rfl, hs, k⟩ := h
    obtain ⟨dx, ps, pw, wd0, ds, h1, h2, h3, h4, h5, h6, h7, h8, h9, o1, o2⟩ := hs.ex
    obtain ⟨t1, g1⟩ := T.k_NO_DAYS
    refine ⟨_, pss_cons (ps_if (pt_cmpR op_eq (pe_callB call_len_seq (by rfl) T.b_len PySem.boot_len (pa_cons (pe_fld (pv 0) rfl) pa_nil)) pe_int (nomark _)) (pss_one (ps_ret (pe_glob (v := .int (-4)) (by rfl) g1 ⟨_, rfl⟩))) pss_nil)
      (pss_cons (ps_expr (pe_bm0 PySem.F.plainAttrs_list PySem.F.slot_list_pop PySem.F.type_list_pop mt_pop (pe_fld (pv 0) rfl)))
      (pss_one (ps_ret (pe_callB call_len_seq (by rfl) T.b_len PySem.boot_len (pa_cons (pe_fld (pv 0) rfl) pa_nil))))), ?_⟩
    refine ⟨_, rfl, p, _, dx, _, _, rfl, h1, T.cl_Season, T.n_Season_days, rfl, pd, _, rfl, .inl (SqL.of h5), rfl, _, rfl, ?_⟩
    unfold dropStep at k
    refine iteB (fun c => ?_) (fun c => ?_)
    · have c' : s.days = [] := by
        have c1 : V.int ((ds.map V.ref).length : Int) = V.int 0 := of_decide_eq_true c
        have c2 : ((ds.map V.ref).length : Int) = 0 := V.int.inj c1
        rw [List.length_map, h8] at c2
        exact List.eq_nil_of_length_eq_zero (by omega)
      rw [if_pos c'] at k
      exact k _ hs (fun b o e _ => e)
    · have c' : ¬ s.days = [] := by
        intro z
        have c1 : ¬ V.int ((ds.map V.ref).length : Int) = V.int 0 := of_decide_eq_false c
        apply c1
        rw [List.length_map, h8, z]
        rfl
      rw [if_neg c'] at k
      have hdn : ds ≠ [] := by
        intro z
        rw [z] at h8
        exact c' (List.eq_nil_of_length_eq_zero h8.symm)
      have hlast : (ds.map V.ref)[(ds.map V.ref).length - 1]? = some (.ref (ds.getLast hdn)) := by
        rw [List.getElem?_map, List.length_map, List.getLast_eq_getElem, List.getElem?_eq_getElem]
        rfl
      refine ⟨_, rfl, p, _, dx, _, _, rfl, h1, T.cl_Season, T.n_Season_days, rfl, .inl ⟨rfl, _, SqL.of h5⟩, pd, _, _, rfl, rfl, h5, hlast, ?_⟩
      have kB : But pd H (upd H pd (.lst (ds.map V.ref).dropLast)) := fun b o e hb => by rw [upd_ne hb]; exact e
      have hpd : (upd H pd (.lst (ds.map V.ref).dropLast)) pd = some (.lst (ds.dropLast.map V.ref)) := by rw [upd_same, List.map_dropLast]
      have hS : SeasonAt a (upd H pd (.lst (ds.map V.ref).dropLast)) p pd O { s with days := s.days.dropLast } := by
        refine hs.days (fun b z => z) kB hpd (by rw [List.length_dropLast, List.length_dropLast, h8]) fun i q d' u v => ?_
        rw [List.getElem?_dropLast] at u v
        split at u
        · split at v
          · exact (h9 i q d' u v).but h5 hdn kB
          · cases v
        · cases u
      refine ⟨_, rfl, p, _, dx, _, _, rfl, kB _ _ h1 (ne_of h1 h5 (by intro z; cases z)), T.cl_Season, T.n_Season_days, rfl, pd, _, rfl, .inl (SqL.of hpd), ?_⟩
      have e3 : ((((ds.dropLast).map V.ref).length : Nat) : Int) = ((s.days.length - 1 : Nat) : Int) := by rw [List.length_map, List.length_dropLast, h8]
      rw [e3]
      exact k _ hS kB
end
end Fs

set_option Elab.async false
set_option maxRecDepth 100000
set_option maxHeartbeats 2000000
namespace Fs
open PySem PySem.Spec PyProof.Rows L2
open PySem.W (Codec)
theorem cut_nat (xs : List V) (i m : Nat) (h : i + m ≤ xs.length) : cutV xs (some (i : Int)) (some ((i : Int) + (m : Int))) = (xs.drop i).take m := by
  unfold cutV
  have e : ((i : Int) + (m : Int)) = ((i + m : Nat) : Int) := by omega
  rw [e, HT.sIx_nat, HT.sIx_nat, Nat.min_eq_left h, Nat.min_eq_left (show i ≤ xs.length by omega)]
  have e2 : i + m - i = m := by omega
  rw [e2]
section
variable {P : Program} {w : World} {K : PySem.W.Frag} {mg : Str → Option Value} {base : Heap} {a : Ads}
def sp_Reader_init (a : Ads) : Sp := fun vs H Q _ => ∃ (p dx pc : Addr), vs = [.ref p, .ref pc] ∧ H p = some (.ins a.c_Reader dx []) ∧ Q .non (upd H p (.ins a.c_Reader dx (fReader pc 0)))
theorem ok_Reader_init (T : Txt K mg a) : FnOk P w K mg base CX0 1 a.f_Reader_init a.d_Reader_init ["self", "calls"] (sp_Reader_init a) := by
  refine T.F_Reader_init.ok sc_Reader_init (fun vs H Q E h => ?_) (fun cdv A outer s H vs Q E hr h => ?_)
  · obtain ⟨p, dx, pc, rfl, _⟩ := h
    rfl
  · obtain ⟨p, dx, pc, rfl, hp, k⟩ := h
    refine ⟨_, pss_cons (ps_fld (pv 0) (pv 1) rfl) (pss_one (ps_fld (pv 0) pe_int rfl)), ?_⟩
    refine ⟨_, rfl, _, rfl, p, _, dx, _, rfl, hp, T.cl_Reader, T.n_Reader_calls, (by show 0 < 1000; decide), ?_⟩
    refine ⟨_, rfl, p, _, dx, _, rfl, upd_same, T.cl_Reader, T.n_Reader_position, (by show 1 < 1000; decide), ?_⟩
    rw [upd_upd]
    exact k
def sp_Reader_is_done (K : PySem.W.Frag) (a : Ads) : Sp := fun vs H Q _ => ∃ (p dx pc : Addr) (xs : List V) (i : Nat), vs = [.ref p] ∧ H p = some (.ins a.c_Reader dx (fReader pc (i : Int))) ∧ SqL K H pc xs ∧ Q (.bl (decide (xs.length ≤ i))) H
theorem ok_Reader_is_done (T : Txt K mg a) : FnOk P w K mg base CX0 1 a.f_Reader_is_done a.d_Reader_is_done ["self"] (sp_Reader_is_done K a) := by
  refine T.F_Reader_is_done.ok sc_Reader_is_done (fun vs H Q E h => ?_) (fun cdv A outer s H vs Q E hr h => ?_)
  · obtain ⟨p, dx, pc, xs, i, rfl, _⟩ := h
    rfl
  · obtain ⟨p, dx, pc, xs, i, rfl, hp, hS, k⟩ := h
    refine ⟨_, pss_one (ps_ret (pe_cmpR op_ge (pe_fld (pv 0) rfl) (pe_callB call_len_seq (by rfl) T.b_len PySem.boot_len (pa_cons (pe_fld (pv 0) rfl) pa_nil)) (nomark _))), ?_⟩
    refine ⟨_, rfl, p, _, dx, _, _, rfl, hp, T.cl_Reader, T.n_Reader_position, rfl, _, rfl, p, _, dx, _, _, rfl, hp, T.cl_Reader, T.n_Reader_calls, rfl, pc, _, rfl, .inl hS, _, _, rfl, rfl, ?_⟩
    have e : decide ((xs.length : Int) ≤ (i : Int)) = decide (xs.length ≤ i) := by
      by_cases h : xs.length ≤ i
      · rw [decide_eq_true h, decide_eq_true (by omega)]
      · rw [decide_eq_false h, decide_eq_false (by omega)]
    show Q (.bl (decide ((xs.length : Int) ≤ (i : Int)))) H
    rw [e]
    exact k
def sp_Reader_take (K : PySem.W.Frag) (a : Ads) : Sp := fun vs H Q _ => ∃ (p dx pc : Addr) (xs : List V) (i m : Nat), vs = [.ref p, .int (m : Int)] ∧ H p = some (.ins a.c_Reader dx (fReader pc (i : Int))) ∧ SqL K H pc xs ∧ i + m ≤ xs.length ∧
  ∀ q, H q = none → Q (.ref q) (upd (upd H q (.lst ((xs.drop i).take m))) p (.ins a.c_Reader dx (fReader pc ((i + m : Nat) : Int))))
theorem ok_Reader_take (T : Txt K mg a) : FnOk P w K mg base CX0 1 a.f_Reader_take a.d_Reader_take ["self", "many"] (sp_Reader_take K a) := by
  refine T.F_Reader_take.ok sc_Reader_take (fun vs H Q E h => ?_) (fun cdv A outer s H vs Q E hr h => ?_)
  · obtain ⟨p, dx, pc, xs, i, m, rfl, _⟩ := h
    rfl
  · obtain ⟨p, dx, pc, xs, i, m, rfl, hp, hS, hl, k⟩ := h
    refine ⟨_, pss_cons (ps_set (i := 2) sc_Reader_take.nd rfl (Or.inl rfl) (pe_slice sl_list (pe_fld (pv 0) rfl) (po_some (pe_fld (pv 0) rfl)) (po_some (pe_op op_add (pe_fld (pv 0) rfl) (pv 1)))))
      (pss_cons (ps_fld (pv 0) (pe_op op_add (pe_fld (pv 0) rfl) (pv 1)) rfl) (pss_one (ps_ret (pv 2)))), ?_⟩
    refine ⟨_, rfl, p, _, dx, _, _, rfl, hp, T.cl_Reader, T.n_Reader_calls, rfl, _, rfl, p, _, dx, _, _, rfl, hp, T.cl_Reader, T.n_Reader_position, rfl, _, rfl, _, rfl, p, _, dx, _, _, rfl, hp, T.cl_Reader, T.n_Reader_position, rfl, _, rfl, _, _, rfl, rfl, _, rfl, pc, xs, rfl, hS, fun q hq => ?_⟩
    have nq : p ≠ q := ne_of_none hp hq
    have hp' : ∀ o, upd H q o p = some (.ins a.c_Reader dx (fReader pc (i : Int))) := fun o => by rw [upd_ne nq]; exact hp
    refine ⟨_, rfl, p, _, dx, _, _, rfl, hp' _, T.cl_Reader, T.n_Reader_position, rfl, _, rfl, _, _, rfl, rfl, _, rfl, p, _, dx, _, rfl, hp' _, T.cl_Reader, T.n_Reader_position, (by show 2 < 1000; decide), _, rfl, ?_⟩
    rw [cut_nat xs i m hl]
    have e : ((i + m : Nat) : Int) = (i : Int) + (m : Int) := by omega
    have k' := k q hq
    rw [e] at k'
    exact k'
/-- the reader has gone on to i; a new list or none was laid: all but p stays -/
def sp_Reader_number (K : PySem.W.Frag) (a : Ads) : Sp := fun vs H Q _ => ∃ (p dx pc : Addr) (xs : List V) (i : Nat) (x : V), vs = [.ref p] ∧ H p = some (.ins a.c_Reader dx (fReader pc (i : Int))) ∧ SqL K H pc xs ∧ xs[i]? = some x ∧
  ∀ H', H' p = some (.ins a.c_Reader dx (fReader pc ((i + 1 : Nat) : Int))) → But p H H' → Q x H'
theorem ok_Reader_number (T : Txt K mg a) : FnOk P w K mg base CX0 2 a.f_Reader_number a.d_Reader_number ["self"] (sp_Reader_number K a) := by
  refine T.F_Reader_number.ok sc_Reader_number (fun vs H Q E h => ?_) (fun cdv A outer s H vs Q E hr h => ?_)
  · obtain ⟨p, dx, pc, xs, i, x, rfl, _⟩ := h
    rfl
  · obtain ⟨p, dx, pc, xs, i, x, rfl, hp, hS, hx, k⟩ := h
    refine ⟨_, pss_one (ps_ret (pe_ix ix_list (pe_meth (pv 0) T.cl_Reader T.me_Reader_take (ok_Reader_take T) hr T.B_Reader_take .nil pass0 (pa_cons pe_int pa_nil)) pe_int (fun _ _ => rfl))), ?_⟩
    have hi := (List.getElem?_eq_some_iff.mp hx).1
    refine ⟨_, rfl, p, dx, _, rfl, hp, rfl, p, dx, pc, xs, i, 1, rfl, hp, hS, hi, fun q hq => ?_⟩
    have nq : p ≠ q := ne_of_none hp hq
    refine ⟨q, (xs.drop i).take 1, 0, x, rfl, rfl, SqL.of (by rw [upd_ne nq.symm]; exact upd_same), at_of (j := 0) rfl ?_, ?_⟩
    · rw [List.getElem?_take, if_pos (by decide), List.getElem?_drop]
      exact hx
    · exact k _ upd_same (fun b o e hb => by rw [upd_ne hb, upd_ne (ne_of_none e hq)]; exact e)
def sp_Reader_row (K : PySem.W.Frag) (a : Ads) : Sp := fun vs H Q _ => ∃ (p dx pc : Addr) (xs : List V) (i m : Nat), vs = [.ref p] ∧ H p = some (.ins a.c_Reader dx (fReader pc (i : Int))) ∧ (∀ H', But p H H' → SqL K H' pc xs) ∧ xs[i]? = some (.int (m : Int)) ∧ i + 1 + m ≤ xs.length ∧
  ∀ H' q, H q = none → H' q = some (.lst ((xs.drop (i + 1)).take m)) → H' p = some (.ins a.c_Reader dx (fReader pc ((i + 1 + m : Nat) : Int))) → But p H H' → Q (.ref q) H'
theorem ok_Reader_row (T : Txt K mg a) : FnOk P w K mg base CX0 3 a.f_Reader_row a.d_Reader_row ["self"] (sp_Reader_row K a) := by
  refine T.F_Reader_row.ok sc_Reader_row (fun vs H Q E h => ?_) (fun cdv A outer s H vs Q E hr h => ?_)
  · obtain ⟨p, dx, pc, xs, i, m, rfl, _⟩ := h
    rfl
  · obtain ⟨p, dx, pc, xs, i, m, rfl, hp, hS, hx, hl, k⟩ := h
    have hr1 := hr.mono (j := 1) (by decide)
    refine ⟨_, pss_one (ps_ret (pe_meth (pv 0) T.cl_Reader T.me_Reader_take (ok_Reader_take T) hr1 T.B_Reader_take .nil pass0 (pa_cons (pe_meth0 (pv 0) T.cl_Reader T.me_Reader_number (ok_Reader_number T) hr T.B_Reader_number .nil pass0) pa_nil))), ?_⟩
    refine ⟨_, rfl, p, dx, _, rfl, hp, rfl, _, rfl, p, dx, _, rfl, hp, rfl, p, dx, pc, xs, i, _, rfl, hp, hS H (fun b o e _ => e), hx, fun H1 h1 b1 => ?_⟩
    refine ⟨p, dx, pc, xs, i + 1, m, rfl, h1, hS H1 b1, hl, fun q hq => ?_⟩
    have nq : p ≠ q := ne_of_none h1 hq
    have nH : H q = none := by
      cases e : H q with
      | none => rfl
      | some o =>
        rw [b1 q o e nq.symm] at hq
        cases hq
    exact k _ q nH (by rw [upd_ne nq.symm]; exact upd_same) upd_same (fun b o e hb => by rw [upd_ne hb, upd_ne (ne_of_none (b1 b o e hb) hq)]; exact b1 b o e hb)
end
end Fs

set_option Elab.async false
set_option maxRecDepth 100000
set_option maxHeartbeats 2000000
namespace Fs
open PySem PySem.Spec PyProof.Rows L2
open PySem.W (Codec)
/-- what is frozen stays -/
def FrzKept (H H' : Hp) : Prop := ∀ b o u, H b = some (.frz o u) → H' b = some (.frz o u)
/-- the list handed in, as it is read in every heap that keeps what is frozen -/
def Arg (K : PySem.W.Frag) (H : Hp) (p : Addr) (xs : List V) : Prop := ∀ H', FrzKept H H' → SqL K H' p xs
theorem Arg.seq {K : PySem.W.Frag} {H : Hp} {p : Addr} {xs : List V} (h : Arg K H p xs) : SqL K H p xs := h H fun _ _ _ e => e
theorem Arg.kept {K : PySem.W.Frag} {H H' : Hp} {p : Addr} {xs : List V} (h : Arg K H p xs) (k : FrzKept H H') : Arg K H' p xs := fun H2 k2 => h H2 fun b o u e => k2 b o u (k b o u e)
theorem But.frz {p : Addr} {H H' : Hp} {o : HO} (k : But p H H') (hp : H p = some o) (hn : ∀ o' u, o ≠ .frz o' u) : FrzKept H H' := fun b o' u e => k b _ e (fun z => by
  subst z
  rw [hp] at e
  exact hn _ _ (Option.some.inj e))
theorem SeasonAt.keep {a : Ads} {H H' : Hp} {p pd : Addr} {O : Addr → Prop} {s : Uw01.Season} (h : SeasonAt a H p pd O s) (k : ∀ b o, H b = some o → (((∃ xs, o = .lst xs) ∧ (O b ∨ b = pd)) ∨ (∃ C dx pw m ph, o = .ins C dx (fDay pw m ph)) ∨ ∃ C dx wd ps pw pd, o = .ins C dx (fSeason wd ps pw pd)) → H' b = some o) : SeasonAt a H' p pd O s := by
  obtain ⟨dx, ps, pw, wd, ds, h1, h2, h3, h4, h5, h6, h7, h8, h9, o1, o2⟩ := h.ex
  refine ⟨dx, ps, pw, wd, ds, k _ _ h1 (.inr (.inr ⟨_, _, _, _, _, _, rfl⟩)), h2, k _ _ h3 (.inl ⟨⟨_, rfl⟩, .inl o1⟩), k _ _ h4 (.inl ⟨⟨_, rfl⟩, .inl o2⟩), k _ _ h5 (.inl ⟨⟨_, rfl⟩, .inr rfl⟩), h6, h7, h8, fun i q d u v => ?_, o1, o2⟩
  obtain ⟨dx', pw', ph', g1, g2, g3, w1, w2⟩ := (h9 i q d u v).ex
  exact ⟨dx', pw', ph', k _ _ g1 (.inr (.inl ⟨_, _, _, _, _, rfl⟩)), k _ _ g2 (.inl ⟨⟨_, rfl⟩, .inl w1⟩), k _ _ g3 (.inl ⟨⟨_, rfl⟩, .inl w2⟩), w1, w2⟩
theorem SeasonAt.reader {a : Ads} {H H' : Hp} {p pd pr C dx pc : Addr} {O : Addr → Prop} {i : Int} {s : Uw01.Season} (h : SeasonAt a H p pd O s) (hr : H pr = some (.ins C dx (fReader pc i))) (k : But pr H H') : SeasonAt a H' p pd O s := by
  refine h.keep fun b o e ho => k b o e (ne_of e hr ?_)
  rcases ho with ⟨⟨_, rfl⟩, _⟩ | ⟨_, _, _, _, _, rfl⟩ | ⟨_, _, _, _, _, _, rfl⟩
  · intro z
    cases z
  · intro z
    injection z with _ _ z
    cases z
  · intro z
    injection z with _ _ z
    cases z
section
variable {P : Program} {w : World} {K : PySem.W.Frag} {mg : Str → Option Value} {base : Heap} {a : Ads}
/-- behind a call of the season: its answer stands new at q, the season is s', the reader at i' -/
def Aft (a : Ads) (H : Hp) (ps pd pr dxr pc : Addr) (O : Addr → Prop) (s' : Uw01.Season) (ans : List Int) (i' : Nat) (Q : VK) : Prop :=
  ∀ H' q pd' (O' : Addr → Prop), H q = none → H' q = some (.lst (ans.map V.int)) → (pd' = pd ∨ H pd' = none) → (∀ b, O' b → O b ∨ H b = none) → pd' ≠ q → SeasonAt a H' ps pd' O' s' → H' pr = some (.ins a.c_Reader dxr (fReader pc (i' : Int))) →
    (∀ b o, H b = some o → b ≠ ps → b ≠ pd → b ≠ pr → H' b = some o) → Q (.ref q) H'
theorem drop_get {cs r : List Nat} {i k x : Nat} (h : cs.drop i = r) (e : r[k]? = some x) : (nv cs)[i + k]? = some (.int (x : Int)) := by
  unfold nv
  rw [List.getElem?_map, ← List.getElem?_drop, h, e]
  rfl
theorem drop_len {cs r : List Nat} {i : Nat} (h : cs.drop i = r) (hr : r ≠ []) : cs.length = i + r.length := by
  have e := congrArg List.length h
  rw [List.length_drop] at e
  have : 0 < r.length := List.length_pos_iff.mpr hr
  omega
theorem drop_take {cs l t : List Nat} {i k : Nat} {h : List Nat} (e : cs.drop i = h ++ (l ++ t)) (hk : h.length = k) : ((nv cs).drop (i + k)).take l.length = nv l := by
  unfold nv
  rw [← List.map_drop, ← List.map_take, ← List.drop_drop, e, ← hk, List.drop_left, List.take_left]
def beginsStep (s : Uw01.Season) (wd : Nat) (l : List Nat) : Uw01.Season × Int :=
  (if forestOk (wd : Int) (ni l) = true then ⟨wd, plc l, []⟩ else s, if forestOk (wd : Int) (ni l) = true then ((plc l).length : Int) else -1)
def sp_answer_begins (K : PySem.W.Frag) (a : Ads) : Sp := fun vs H Q _ => ∃ (ps pd pr dxr pc : Addr) (O : Addr → Prop) (cs : List Nat) (i : Nat) (s : Uw01.Season) (wd : Nat) (l t : List Nat), vs = [.ref ps, .ref pr] ∧ SeasonAt a H ps pd O s ∧ H pr = some (.ins a.c_Reader dxr (fReader pc (i : Int))) ∧ Arg K H pc (nv cs) ∧
  cs.drop i = [wd, l.length] ++ (l ++ t) ∧ l.length ≤ 100000 ∧ l.length % 2 = 0 ∧ Aft a H ps pd pr dxr pc O (beginsStep s wd l).1 [(beginsStep s wd l).2] (i + 2 + l.length) Q
theorem ok_answer_begins (T : Txt K mg a) : FnOk P w K mg base CX0 4 a.f_answer_begins a.d_answer_begins ["season", "reader"] (sp_answer_begins K a) := by
  refine T.F_answer_begins.ok sc_answer_begins (fun vs H Q E h => ?_) (fun cdv A outer s H vs Q E hr h => ?_)
  · obtain ⟨ps, pd, pr, dxr, pc, O, cs, i, s, wd, l, t, rfl, _⟩ := h
    rfl
  · obtain ⟨ps, pd, pr, dxr, pc, O, cs, i, s, wd, l, t, rfl, hs, hp, hA, hc, hl, hev, k⟩ := h
    have hr2 := hr.mono (j := 2) (by decide)
    refine ⟨_, pss_cons (ps_set (i := 2) sc_answer_begins.nd rfl (Or.inl rfl) (pe_meth0 (pv 1) T.cl_Reader T.me_Reader_number (ok_Reader_number T) hr2 T.B_Reader_number .nil pass0))
      (pss_cons (ps_set (i := 3) sc_answer_begins.nd rfl (Or.inl rfl) (pe_meth0 (pv 1) T.cl_Reader T.me_Reader_row (ok_Reader_row T) hr T.B_Reader_row .nil pass0))
      (pss_one (ps_ret (pe_lst (pa_cons (pe_meth (pv 0) T.cl_Season T.me_Season_begins (ok_Season_begins T) hr T.B_Season_begins .nil pass0 (pa_cons (pv 2) (pa_cons (pv 3) pa_nil))) pa_nil))))), ?_⟩
    have hlen := drop_len hc (by simp)
    have e0 : (nv cs)[i]? = some (.int (wd : Int)) := drop_get (k := 0) hc rfl
    have e1 : (nv cs)[i + 1]? = some (.int (l.length : Int)) := drop_get (k := 1) hc rfl
    refine ⟨_, rfl, pr, dxr, _, rfl, hp, rfl, pr, dxr, pc, nv cs, i, _, rfl, hp, hA.seq, e0, fun H1 h1 b1 => ?_⟩
    have hA1 := hA.kept (b1.frz hp (by intro _ _ z; cases z))
    have hs1 := hs.reader hp b1
    refine ⟨_, rfl, pr, dxr, _, rfl, h1, rfl, pr, dxr, pc, nv cs, i + 1, l.length, rfl, h1, (fun H' b' => (hA1.kept (b'.frz h1 (by intro _ _ z; cases z))).seq), e1, (by rw [nv_len, hlen]; simp; omega), fun H2 q nq hq h2 b2 => ?_⟩
    have hs2 := hs1.reader h1 b2
    have hq' : H2 q = some (.lst (nv l)) := by
      rw [hq]
      have := drop_take (k := 2) hc rfl
      rw [show i + 1 + 1 = i + 2 from rfl, this]
    obtain ⟨dx, _, _, _, _, hps, _⟩ := hs2.ex
    refine ⟨_, rfl, ps, dx, _, rfl, hps, rfl, _, rfl, _, rfl, ps, pd, q, O, s, wd, l, rfl, hs2, SqL.of hq', hl, hev, fun H3 pd' O' hpd hO hs3 b3 => ?_⟩
    refine ⟨(by show 1 ≤ sizeLine; decide), fun q2 nq2 => ?_⟩
    have nrs : pr ≠ ps := ne_of h2 hps (by intro z; injection z with _ _ z; cases z)
    have kk : ∀ b o, H b = some o → b ≠ ps → b ≠ pr → H3 b = some o := fun b o e n1 n2 => b3 b o (b2 b o (b1 b o e n2) n2) n1
    have h3r := b3 _ _ h2 nrs
    have nH : H q2 = none := by
      cases e : H q2 with
      | none => rfl
      | some o =>
        by_cases n1 : q2 = ps
        · subst n1
          obtain ⟨_, _, _, _, _, g, _⟩ := hs3.ex
          rw [g] at nq2
          cases nq2
        · by_cases n2 : q2 = pr
          · subst n2
            rw [h3r] at nq2
            cases nq2
          · rw [kk q2 o e n1 n2] at nq2
            cases nq2
    obtain ⟨_, _, _, _, ds3, g1, _, _, _, g5, _⟩ := hs3.ex
    have fre : ∀ c, H2 c = none → H c = none := fun c e => by
      cases e' : H c with
      | none => rfl
      | some o =>
        by_cases n2 : c = pr
        · subst n2
          rw [h2] at e
          cases e
        · rw [b2 _ _ (b1 _ _ e' n2) n2] at e
          cases e
    refine k _ q2 pd' O' nH upd_same ?_ ?_ (ne_of_none g5 nq2) (hs3.same (same_upd nq2)) ?_ ?_
    · rcases hpd with e | e
      · exact .inl e
      · exact .inr (fre _ e)
    · intro b ob
      rcases hO b ob with e | e
      · exact .inl e
      · exact .inr (fre _ e)
    · rw [upd_ne (ne_of_none h3r nq2), h3r]
    · intro b o e n1 _ n3
      rw [upd_ne (ne_of_none (kk b o e n1 n3) nq2)]
      exact kk b o e n1 n3
end
end Fs

set_option Elab.async false
set_option maxRecDepth 100000
set_option maxHeartbeats 2000000
namespace Fs
open PySem PySem.Spec PyProof.Rows L2
open PySem.W (Codec)
section
variable {P : Program} {w : World} {K : PySem.W.Frag} {mg : Str → Option Value} {base : Heap} {a : Ads}
theorem But.none {p q : Addr} {H H' : Hp} (k : But p H H') (hp : ∃ o, H' p = some o) (h : H' q = none) : H q = none := by
  cases e : H q with
  | none => rfl
  | some o =>
    by_cases n : q = p
    · subst n
      obtain ⟨o', e'⟩ := hp
      rw [e'] at h
      cases h
    · rw [k q o e n] at h
      cases h
theorem SeasonAt.pdlst {H : Hp} {ps pd : Addr} {O : Addr → Prop} {s : Uw01.Season} (h : SeasonAt a H ps pd O s) : ∃ ds : List Addr, H pd = some (.lst (ds.map V.ref)) := by
  obtain ⟨_, _, _, _, ds, _, _, _, _, g5, _⟩ := h.ex
  exact ⟨ds, g5⟩
theorem SeasonAt.obj {H : Hp} {ps pd : Addr} {O : Addr → Prop} {s : Uw01.Season} (h : SeasonAt a H ps pd O s) : ∃ dx wd p1 p2, H ps = some (.ins a.c_Season dx (fSeason wd p1 p2 pd)) := by
  obtain ⟨dx, p1, p2, wd, _, g, _⟩ := h.ex
  exact ⟨dx, wd, p1, p2, g⟩
def sp_answer_day (K : PySem.W.Frag) (a : Ads) : Sp := fun vs H Q _ => ∃ (ps pd pr dxr pc : Addr) (O : Addr → Prop) (cs : List Nat) (i : Nat) (s : Uw01.Season) (d : Uw01.Day) (t : List Nat), vs = [.ref ps, .ref pr] ∧ SeasonAt a H ps pd O s ∧ H pr = some (.ins a.c_Reader dxr (fReader pc (i : Int))) ∧ Arg K H pc (nv cs) ∧
  d.wind.length = 4 ∧ cs.drop i = d.wind ++ ([d.minutes, d.strikes.length] ++ (d.strikes ++ t)) ∧ d.strikes.length ≤ 100000 ∧ Aft a H ps pd pr dxr pc O (dayStep s d).1 [(dayStep s d).2] (i + 6 + d.strikes.length) Q
theorem ok_answer_day (T : Txt K mg a) : FnOk P w K mg base CX0 4 a.f_answer_day a.d_answer_day ["season", "reader"] (sp_answer_day K a) := by
  refine T.F_answer_day.ok sc_answer_day (fun vs H Q E h => ?_) (fun cdv A outer s H vs Q E hr h => ?_)
  · obtain ⟨ps, pd, pr, dxr, pc, O, cs, i, s, d, t, rfl, _⟩ := h
    rfl
  · obtain ⟨ps, pd, pr, dxr, pc, O, cs, i, s, d, t, rfl, hs, hp, hA, hw4, hc, hl, k⟩ := h
    obtain ⟨t1, g1⟩ := T.k_DIRECTIONS
    have hr1 := hr.mono (j := 1) (by decide)
    have hr2 := hr.mono (j := 2) (by decide)
    refine ⟨_, pss_cons (ps_set (i := 2) sc_answer_day.nd rfl (Or.inl rfl) (pe_meth (pv 1) T.cl_Reader T.me_Reader_take (ok_Reader_take T) hr1 T.B_Reader_take .nil pass0 (pa_cons (pe_glob (v := .int 4) (by rfl) g1 ⟨_, rfl⟩) pa_nil)))
      (pss_cons (ps_set (i := 3) sc_answer_day.nd rfl (Or.inl rfl) (pe_meth0 (pv 1) T.cl_Reader T.me_Reader_number (ok_Reader_number T) hr2 T.B_Reader_number .nil pass0))
      (pss_cons (ps_set (i := 4) sc_answer_day.nd rfl (Or.inl rfl) (pe_meth0 (pv 1) T.cl_Reader T.me_Reader_row (ok_Reader_row T) hr T.B_Reader_row .nil pass0))
      (pss_one (ps_ret (pe_lst (pa_cons (pe_meth (pv 0) T.cl_Season T.me_Season_day (ok_Season_day T) hr T.B_Season_day .nil pass0 (pa_cons (pv 2) (pa_cons (pv 3) (pa_cons (pv 4) pa_nil)))) pa_nil)))))), ?_⟩
    have hlen := drop_len hc (by simp)
    have hlen' : (nv cs).length = i + (4 + (2 + (d.strikes.length + t.length))) := by
      rw [nv_len, hlen]
      simp [hw4]
      omega
    have eW : ((nv cs).drop i).take 4 = nv d.wind := by
      have := drop_take (h := []) (k := 0) (l := d.wind) hc rfl
      rw [hw4] at this
      exact this
    have gk : ∀ (k x : Nat), ([d.minutes, d.strikes.length] ++ (d.strikes ++ t))[k]? = some x → (nv cs)[i + 4 + k]? = some (.int (x : Int)) := fun k x e => by
      have := drop_get (k := 4 + k) (x := x) hc (by rw [List.getElem?_append_right (by omega), hw4, show 4 + k - 4 = k by omega]; exact e)
      rw [Nat.add_assoc]
      exact this
    obtain ⟨dx, _, _, _, hps⟩ := hs.obj
    refine ⟨_, rfl, pr, dxr, _, rfl, hp, rfl, pr, dxr, pc, nv cs, i, 4, rfl, hp, hA.seq, (by omega), fun q nq => ?_⟩
    rw [eW]
    have nrq : pr ≠ q := ne_of_none hp nq
    have b1 : But pr H (upd (upd H q (.lst (nv d.wind))) pr (.ins a.c_Reader dxr (fReader pc ((i + 4 : Nat) : Int)))) := fun b o e hb => by rw [upd_ne hb, upd_ne (ne_of_none e nq)]; exact e
    have h1 : (upd (upd H q (.lst (nv d.wind))) pr (.ins a.c_Reader dxr (fReader pc ((i + 4 : Nat) : Int)))) pr = some (.ins a.c_Reader dxr (fReader pc ((i + 4 : Nat) : Int))) := upd_same
    have hq1 : (upd (upd H q (.lst (nv d.wind))) pr (.ins a.c_Reader dxr (fReader pc ((i + 4 : Nat) : Int)))) q = some (.lst (nv d.wind)) := by rw [upd_ne nrq.symm]; exact upd_same
    generalize (upd (upd H q (.lst (nv d.wind))) pr (.ins a.c_Reader dxr (fReader pc ((i + 4 : Nat) : Int)))) = H1 at b1 h1 hq1 ⊢
    have hA1 := hA.kept (b1.frz hp (by intro _ _ z; cases z))
    refine ⟨_, rfl, pr, dxr, _, rfl, h1, rfl, pr, dxr, pc, nv cs, i + 4, _, rfl, h1, hA1.seq, gk 0 _ rfl, fun H2 h2 b2 => ?_⟩
    have hA2 := hA1.kept (b2.frz h1 (by intro _ _ z; cases z))
    refine ⟨_, rfl, pr, dxr, _, rfl, h2, rfl, pr, dxr, pc, nv cs, i + 4 + 1, d.strikes.length, rfl, h2, (fun H' b' => (hA2.kept (b'.frz h2 (by intro _ _ z; cases z))).seq), gk 1 _ rfl, (by omega), fun H3 q3 nq3 hq3 h3 b3 => ?_⟩
    have b13 : But pr H1 H3 := fun b o e hb => b3 b o (b2 b o e hb) hb
    have b03 : But pr H H3 := fun b o e hb => b13 b o (b1 b o e hb) hb
    have hs3 := hs.reader hp b03
    have hq3' : H3 q3 = some (.lst (nv d.strikes)) := by
      rw [hq3]
      have := drop_take (h := d.wind ++ [d.minutes, d.strikes.length]) (k := 6) (l := d.strikes) (t := t) (i := i) (cs := cs) (by rw [hc, List.append_assoc]) (by rw [List.length_append, hw4]; rfl)
      rw [show i + 4 + 1 + 1 = i + 6 from rfl, this]
    obtain ⟨ds, hpd⟩ := hs.pdlst
    have nqd : q ≠ pd := (ne_of_none hpd nq).symm
    have nprd : pr ≠ pd := ne_of hp hpd (by intro z; cases z)
    have nq3d : q3 ≠ pd := by
      intro z
      subst z
      rw [b2 _ _ (b1 _ _ hpd nprd.symm) nprd.symm] at nq3
      cases nq3
    refine ⟨_, rfl, ps, dx, _, rfl, b03 _ _ hps (ne_of hps hp (by intro z; injection z with _ _ z; cases z)), rfl, _, rfl, _, rfl, _, rfl, ps, pd, q, q3, O, s, d, rfl, hs3, b13 _ _ hq1 nrq.symm, hq3', nqd, nq3d, (by omega), hl, fun H4 hs4 b4 => ?_⟩
    refine ⟨(by show 1 ≤ sizeLine; decide), fun q5 nq5 => ?_⟩
    have h4r := b4 _ _ h3 nprd
    obtain ⟨ds4, hpd4⟩ := hs4.pdlst
    have n5 : H q5 = none := b03.none ⟨_, h3⟩ (b4.none ⟨_, hpd4⟩ nq5)
    refine k _ q5 pd _ n5 upd_same (.inl rfl) (fun b ob => by rcases ob with e | e | e; exact .inl e; exact .inr (by rw [e]; exact nq); exact .inr (by rw [e]; exact b1.none ⟨_, h1⟩ (b2.none ⟨_, h2⟩ nq3))) (ne_of_none hpd4 nq5) (hs4.same (same_upd nq5)) ?_ ?_
    · rw [upd_ne (ne_of_none h4r nq5), h4r]
    · intro b o e n1 n2 n3
      have e4 := b4 b o (b03 b o e n3) n2
      rw [upd_ne (ne_of_none e4 nq5)]
      exact e4
end
end Fs

set_option Elab.async false
set_option maxRecDepth 100000
set_option maxHeartbeats 2000000
namespace Fs
open PySem PySem.Spec PyProof.Rows L2
open PySem.W (Codec)
/-- a statement with its end named -/
def tCut (t : TS) : TS := fun D σ H => ∃ R : L2.St → Hp → Prop, t { D with nx := R } σ H ∧ ∀ σ' H', R σ' H' → D.nx σ' H'
theorem ps_cut {X : Cx} {st : Stmt} {t : TS} (h : PS X st t) : PS X st (tCut t) := by
  intro pins s σ H D I q
  obtain ⟨R, q1, q2⟩ := q
  refine thn (h pins s σ H _ I q1) fun fl s' z => ?_
  cases fl with
  | next => obtain ⟨σ', H', J, r⟩ := z; exact ⟨σ', H', J, q2 _ _ r⟩
  | brk => exact z
  | cont => exact z
  | ret u => exact z
/-- pairs of numbers, each a tuple -/
def Tups (G : Hp) (ys : List V) (l : List (Nat × Nat)) : Prop := ys.length = l.length ∧ ∀ (k : Nat) (y : V), ys[k]? = some y → ∃ (q : Addr) (p : Nat × Nat), l[k]? = some p ∧ y = .ref q ∧ G q = some (.tup [.int (p.1 : Int), .int (p.2 : Int)])
theorem Tups.mono {G G' : Hp} {ys : List V} {l : List (Nat × Nat)} (h : Tups G ys l) (s : Same G G') : Tups G' ys l := ⟨h.1, fun k y e => by
  obtain ⟨q, p, h1, h2, h3⟩ := h.2 k y e
  exact ⟨q, p, h1, h2, s _ _ h3⟩⟩
theorem Tups.nil {G : Hp} : Tups G [] [] := ⟨rfl, fun k y e => by simp at e⟩
theorem Tups.snoc {G : Hp} {ys : List V} {l : List (Nat × Nat)} {q : Addr} {a b : Nat} (h : Tups G ys l) (hq : G q = some (.tup [.int (a : Int), .int (b : Int)])) : Tups G (ys ++ [.ref q]) (l ++ [(a, b)]) := by
  refine ⟨by rw [List.length_append, List.length_append, h.1]; rfl, fun k y e => ?_⟩
  by_cases hk : k < ys.length
  · rw [List.getElem?_append_left hk] at e
    obtain ⟨q', p, h1, h2, h3⟩ := h.2 k y e
    exact ⟨q', p, by rw [List.getElem?_append_left (by rw [← h.1]; exact hk)]; exact h1, h2, h3⟩
  · have hk' : k = ys.length := by
      have := (List.getElem?_eq_some_iff.mp e).1
      rw [List.length_append] at this
      simp at this
      omega
    subst hk'
    rw [List.getElem?_append_right (Nat.le_refl _)] at e
    simp at e
    subst e
    exact ⟨q, (a, b), by rw [h.1, List.getElem?_append_right (Nat.le_refl _)]; simp, rfl, hq⟩
def LTup (G : Hp) (q : Addr) (l : List (Nat × Nat)) : Prop := ∃ ys, G q = some (.lst ys) ∧ Tups G ys l
theorem LTup.mono {G G' : Hp} {q : Addr} {l : List (Nat × Nat)} (h : LTup G q l) (s : Same G G') : LTup G' q l := by
  obtain ⟨ys, h1, h2⟩ := h
  exact ⟨ys, s _ _ h1, h2.mono s⟩
def WaysAt (G : Hp) (q : Addr) (ws : List (List (Nat × Nat))) : Prop := ∃ ys : List V, G q = some (.lst ys) ∧ ys.length = ws.length ∧ ∀ (k : Nat) (y : V), ys[k]? = some y → ∃ (r : Addr) (l : List (Nat × Nat)), ws[k]? = some l ∧ y = .ref r ∧ LTup G r l
theorem WaysAt.mono {G G' : Hp} {q : Addr} {ws : List (List (Nat × Nat))} (h : WaysAt G q ws) (s : Same G G') : WaysAt G' q ws := by
  obtain ⟨ys, h1, h2, h3⟩ := h
  refine ⟨ys, s _ _ h1, h2, fun k y e => ?_⟩
  obtain ⟨r, l, g1, g2, g3⟩ := h3 k y e
  exact ⟨r, l, g1, g2, g3.mono s⟩
section
variable {P : Program} {w : World} {K : PySem.W.Frag} {mg : Str → Option Value} {base : Heap} {a : Ads}
def sp_break_at : Sp := fun vs H Q _ => ∃ i : Int, vs = [.int i] ∧ Q (.int (i + 1)) H
theorem ok_break_at (T : Txt K mg a) : FnOk P w K mg base CX0 1 a.f_break_at a.d_break_at ["place"] sp_break_at := by
  refine T.F_break_at.ok sc_break_at (fun vs H Q E h => ?_) (fun cdv A outer s H vs Q E hr h => ?_)
  · obtain ⟨i, rfl, _⟩ := h
    rfl
  · obtain ⟨i, rfl, k⟩ := h
    exact ⟨_, pss_one (ps_ret (pe_op op_add (pv 0) pe_int)), _, rfl, _, _, rfl, rfl, k⟩
def sp_place_of : Sp := fun vs H Q _ => ∃ i : Int, vs = [.int i] ∧ Q (.int (i - 1)) H
theorem ok_place_of (T : Txt K mg a) : FnOk P w K mg base CX0 1 a.f_place_of a.d_place_of ["told"] sp_place_of := by
  refine T.F_place_of.ok sc_place_of (fun vs H Q E h => ?_) (fun cdv A outer s H vs Q E hr h => ?_)
  · obtain ⟨i, rfl, _⟩ := h
    rfl
  · obtain ⟨i, rfl, k⟩ := h
    exact ⟨_, pss_one (ps_ret (pe_op op_sub (pv 0) pe_int)), _, rfl, _, _, rfl, rfl, k⟩
/-- found, while it is filled -/
def Fnd (H : Hp) (pf : Addr) (l : List (Nat × Nat)) (H' : Hp) : Prop := ∃ ys, H' pf = some (.lst ys) ∧ Same H H' ∧ Tups (New H H') ys l
theorem Fnd.snoc {H H' : Hp} {pf q : Addr} {l : List (Nat × Nat)} {a b : Nat} {ys : List V} (hf : H pf = none) (h1 : H' pf = some (.lst ys)) (h2 : Same H H') (h3 : Tups (New H H') ys l) (hq : H' q = none) :
    Fnd H pf (l ++ [(a, b)]) (upd (upd H' q (.tup [.int (a : Int), .int (b : Int)])) pf (.lst (ys ++ [.ref q]))) := by
  have nq : q ≠ pf := (ne_of_none h1 hq).symm
  refine ⟨_, upd_same, fun b o e => ?_, Tups.snoc ⟨h3.1, fun k y e => ?_⟩ ?_⟩
  · rw [upd_ne (ne_of_none e hf), upd_ne (ne_of_none (h2 _ _ e) hq)]
    exact h2 _ _ e
  · obtain ⟨q', p, g1, g2, g3⟩ := h3.2 k y e
    obtain ⟨g4, g5⟩ := new_some g3
    refine ⟨q', p, g1, g2, ?_⟩
    rw [new_eq g4, upd_ne (ne_of g5 h1 (by intro z; cases z)), upd_ne (ne_of_none g5 hq)]
    exact g5
  · rw [new_eq (h2.free hq), upd_ne nq, upd_same]
def sp_neighbours : Sp := fun vs H Q _ => ∃ (wd n p : Nat), vs = [.int (wd : Int), .int (n : Int), .int (p : Int)] ∧ 1 ≤ wd ∧ ∀ H' q, Same H H' → LTup (New H H') q (nearP wd n p) → Q (.ref q) H'
theorem ok_neighbours (T : Txt K mg a) : FnOk P w K mg base CX0 1 a.f_neighbours a.d_neighbours ["wide", "count", "place"] sp_neighbours := by
  refine T.F_neighbours.ok sc_neighbours (fun vs H Q E h => ?_) (fun cdv A outer s H vs Q E hr h => ?_)
  · obtain ⟨wd, n, p, rfl, _⟩ := h
    rfl
  · obtain ⟨wd, n, p, rfl, hw, k⟩ := h
    obtain ⟨t0, g0⟩ := T.k_UP
    obtain ⟨t1, g1⟩ := T.k_RIGHT
    obtain ⟨t2, g2⟩ := T.k_DOWN
    obtain ⟨t3, g3⟩ := T.k_LEFT
    refine ⟨_, pss_cons (ps_set (i := 3) sc_neighbours.nd rfl (Or.inl rfl) (pe_lst pa_nil))
      (pss_cons (ps_cut (ps_if (pt_cmpR op_ge (pv 2) (pv 0) (nomark _)) (pss_one (ps_expr (pe_bm PySem.F.plainAttrs_list PySem.F.slot_list_append PySem.F.type_list_append mt_append (pv 3) (pa_cons (pe_tup (pa_cons (pe_glob (v := .int 0) (by rfl) g0 ⟨_, rfl⟩) (pa_cons (pe_op op_sub (pv 2) (pv 0)) pa_nil))) pa_nil)))) pss_nil))
      (pss_cons (ps_cut (ps_if (pt_cmpR op_lt (pe_op op_mod (pv 2) (pv 0)) (pe_op op_sub (pv 0) pe_int) (nomark _)) (pss_one (ps_expr (pe_bm PySem.F.plainAttrs_list PySem.F.slot_list_append PySem.F.type_list_append mt_append (pv 3) (pa_cons (pe_tup (pa_cons (pe_glob (v := .int 1) (by rfl) g1 ⟨_, rfl⟩) (pa_cons (pe_op op_add (pv 2) pe_int) pa_nil))) pa_nil)))) pss_nil))
      (pss_cons (ps_cut (ps_if (pt_cmpR op_lt (pe_op op_add (pv 2) (pv 0)) (pv 1) (nomark _)) (pss_one (ps_expr (pe_bm PySem.F.plainAttrs_list PySem.F.slot_list_append PySem.F.type_list_append mt_append (pv 3) (pa_cons (pe_tup (pa_cons (pe_glob (v := .int 2) (by rfl) g2 ⟨_, rfl⟩) (pa_cons (pe_op op_add (pv 2) (pv 0)) pa_nil))) pa_nil)))) pss_nil))
      (pss_cons (ps_cut (ps_if (pt_cmpR op_gt (pe_op op_mod (pv 2) (pv 0)) pe_int (nomark _)) (pss_one (ps_expr (pe_bm PySem.F.plainAttrs_list PySem.F.slot_list_append PySem.F.type_list_append mt_append (pv 3) (pa_cons (pe_tup (pa_cons (pe_glob (v := .int 3) (by rfl) g3 ⟨_, rfl⟩) (pa_cons (pe_op op_sub (pv 2) pe_int) pa_nil))) pa_nil)))) pss_nil))
      (pss_one (ps_ret (pv 3))))))), ?_⟩
    refine ⟨Nat.zero_le _, fun pf nf => ?_⟩
    have few : ∀ {ys : List V} {l : List (Nat × Nat)} {G : Hp}, Tups G ys l → l.length ≤ 4 → ys.length < sizeLine := fun h hl => small1000 (by rw [h.1]; omega)
    let l1 : List (Nat × Nat) := if wd ≤ p then [(0, p - wd)] else []
    let l2 : List (Nat × Nat) := l1 ++ (if p % wd + 1 < wd then [(1, p + 1)] else [])
    let l3 : List (Nat × Nat) := l2 ++ (if p + wd < n then [(2, p + wd)] else [])
    let l4 : List (Nat × Nat) := l3 ++ (if 0 < p % wd then [(3, p - 1)] else [])
    have e1 : l1.length ≤ 1 := by show (if wd ≤ p then _ else _ : List (Nat × Nat)).length ≤ 1; split <;> simp
    have e2 : l2.length ≤ 2 := by show (l1 ++ (if _ then _ else _ : List (Nat × Nat))).length ≤ 2; rw [List.length_append]; split <;> (simp only [List.length_cons, List.length_nil]; omega)
    have e3 : l3.length ≤ 3 := by show (l2 ++ (if _ then _ else _ : List (Nat × Nat))).length ≤ 3; rw [List.length_append]; split <;> (simp only [List.length_cons, List.length_nil]; omega)
    have el : l4 = nearP wd n p := by show ((l1 ++ _) ++ _) ++ _ = _; unfold nearP; simp only [List.append_assoc]; rfl
    refine ⟨fun σ' H' => σ' = [some (.int (wd : Int)), some (.int (n : Int)), some (.int (p : Int)), some (.ref pf)] ∧ Fnd H pf l1 H', ?_, ?_⟩
    · refine ⟨_, rfl, _, rfl, _, _, rfl, rfl, _, rfl, iteB (fun c => ?_) (fun c => ?_)⟩
      · have c' : wd ≤ p := by have := of_decide_eq_true c; omega
        refine ⟨_, rfl, .inl ⟨rfl, _, SqL.of upd_same⟩, _, rfl, _, rfl, _, _, rfl, rfl, (by show 2 ≤ sizeLine; decide), fun q hq => ?_⟩
        refine ⟨pf, _, _, rfl, rfl, by rw [upd_ne (ne_of_none upd_same hq)]; exact upd_same, (by show 0 < sizeLine; decide), rfl, ?_⟩
        have := Fnd.snoc (a := 0) (b := p - wd) nf upd_same (same_upd nf) Tups.nil hq
        have e : ((p - wd : Nat) : Int) = (p : Int) - (wd : Int) := by omega
        rw [e] at this
        show Fnd H pf (if wd ≤ p then [(0, p - wd)] else []) _
        rw [if_pos c']
        exact this
      · have c' : ¬ wd ≤ p := by have := of_decide_eq_false c; omega
        refine ⟨rfl, ?_⟩
        show Fnd H pf (if wd ≤ p then [(0, p - wd)] else []) _
        rw [if_neg c']
        exact ⟨[], upd_same, same_upd nf, Tups.nil⟩
    rintro σ1 H1 ⟨rfl, ys1, f1, f2, f3⟩
    refine ⟨fun σ' H' => σ' = [some (.int (wd : Int)), some (.int (n : Int)), some (.int (p : Int)), some (.ref pf)] ∧ Fnd H pf l2 H', ?_, ?_⟩
    · refine ⟨_, rfl, _, rfl, _, _, rfl, rfl, (by show (0 : Int) < (wd : Int); omega), _, rfl, _, _, rfl, rfl, _, _, rfl, rfl, _, rfl, iteB (fun c => ?_) (fun c => ?_)⟩
      · have c' : p % wd + 1 < wd := by have := of_decide_eq_true c; omega
        refine ⟨_, rfl, .inl ⟨rfl, _, SqL.of f1⟩, _, rfl, _, _, rfl, rfl, (by show 2 ≤ sizeLine; decide), fun q hq => ?_⟩
        refine ⟨pf, _, _, rfl, rfl, by rw [upd_ne (ne_of_none f1 hq)]; exact f1, few f3 (by omega), rfl, ?_⟩
        have := Fnd.snoc (a := 1) (b := p + 1) nf f1 f2 f3 hq
        show Fnd H pf (l1 ++ (if p % wd + 1 < wd then [(1, p + 1)] else [])) _
        rw [if_pos c']
        exact this
      · have c' : ¬ p % wd + 1 < wd := by have := of_decide_eq_false c; omega
        refine ⟨rfl, ?_⟩
        show Fnd H pf (l1 ++ (if p % wd + 1 < wd then [(1, p + 1)] else [])) _
        rw [if_neg c', List.append_nil]
        exact ⟨ys1, f1, f2, f3⟩
    rintro σ2 H2 ⟨rfl, ys2, f1, f2, f3⟩
    refine ⟨fun σ' H' => σ' = [some (.int (wd : Int)), some (.int (n : Int)), some (.int (p : Int)), some (.ref pf)] ∧ Fnd H pf l3 H', ?_, ?_⟩
    · refine ⟨_, rfl, _, rfl, _, _, rfl, rfl, _, rfl, _, _, rfl, rfl, _, rfl, iteB (fun c => ?_) (fun c => ?_)⟩
      · have c' : p + wd < n := by have := of_decide_eq_true c; omega
        refine ⟨_, rfl, .inl ⟨rfl, _, SqL.of f1⟩, _, rfl, _, rfl, _, _, rfl, rfl, (by show 2 ≤ sizeLine; decide), fun q hq => ?_⟩
        refine ⟨pf, _, _, rfl, rfl, by rw [upd_ne (ne_of_none f1 hq)]; exact f1, few f3 (by omega), rfl, ?_⟩
        have := Fnd.snoc (a := 2) (b := p + wd) nf f1 f2 f3 hq
        show Fnd H pf (l2 ++ (if p + wd < n then [(2, p + wd)] else [])) _
        rw [if_pos c']
        exact this
      · have c' : ¬ p + wd < n := by have := of_decide_eq_false c; omega
        refine ⟨rfl, ?_⟩
        show Fnd H pf (l2 ++ (if p + wd < n then [(2, p + wd)] else [])) _
        rw [if_neg c', List.append_nil]
        exact ⟨ys2, f1, f2, f3⟩
    rintro σ3 H3 ⟨rfl, ys3, f1, f2, f3⟩
    refine ⟨fun σ' H' => σ' = [some (.int (wd : Int)), some (.int (n : Int)), some (.int (p : Int)), some (.ref pf)] ∧ Fnd H pf l4 H', ?_, ?_⟩
    · refine ⟨_, rfl, _, rfl, _, _, rfl, rfl, (by show (0 : Int) < (wd : Int); omega), _, _, rfl, rfl, _, rfl, iteB (fun c => ?_) (fun c => ?_)⟩
      · have c' : 0 < p % wd := by have := of_decide_eq_true c; omega
        have hp : 1 ≤ p := Nat.pos_of_ne_zero fun z => by rw [z] at c'; simp at c'
        refine ⟨_, rfl, .inl ⟨rfl, _, SqL.of f1⟩, _, rfl, _, _, rfl, rfl, (by show 2 ≤ sizeLine; decide), fun q hq => ?_⟩
        refine ⟨pf, _, _, rfl, rfl, by rw [upd_ne (ne_of_none f1 hq)]; exact f1, few f3 (by omega), rfl, ?_⟩
        have := Fnd.snoc (a := 3) (b := p - 1) nf f1 f2 f3 hq
        have e : ((p - 1 : Nat) : Int) = (p : Int) - 1 := by omega
        rw [e] at this
        show Fnd H pf (l3 ++ (if 0 < p % wd then [(3, p - 1)] else [])) _
        rw [if_pos c']
        exact this
      · have c' : ¬ 0 < p % wd := by have := of_decide_eq_false c; omega
        refine ⟨rfl, ?_⟩
        show Fnd H pf (l3 ++ (if 0 < p % wd then [(3, p - 1)] else [])) _
        rw [if_neg c', List.append_nil]
        exact ⟨ys3, f1, f2, f3⟩
    rintro σ4 H4 ⟨rfl, ys4, f1, f2, f3⟩
    refine ⟨_, rfl, k H4 pf f2 ⟨ys4, by rw [new_eq nf]; exact f1, ?_⟩⟩
    rw [← el]
    exact f3
end
end Fs

set_option Elab.async false
set_option maxRecDepth 100000
set_option maxHeartbeats 2000000
namespace Fs
open PySem PySem.Spec PyProof.Rows L2
open PySem.W (Codec)
theorem upd_none {H : Hp} {D x : Addr} {o : HO} (h : upd H D o x = none) : x ≠ D ∧ H x = none := by
  by_cases e : x = D
  · subst e
    rw [upd_same] at h
    cases h
  · rw [upd_ne e] at h
    exact ⟨e, h⟩
def bv (l : List Bool) : List V := l.map V.bl
theorem bv_len (l : List Bool) : (bv l).length = l.length := List.length_map ..
theorem bv_get {l : List Bool} {i : Nat} (h : i < l.length) : (bv l)[i]? = some (.bl (l.getD i false)) := by
  unfold bv
  rw [List.getElem?_map, List.getElem?_eq_getElem h, List.getD_eq_getElem?_getD, List.getElem?_eq_getElem h]
  rfl
theorem nv_get {l : List Nat} {i : Nat} (h : i < l.length) : (nv l)[i]? = some (.int (l.getD i 0 : Int)) := by
  unfold nv
  rw [List.getElem?_map, List.getElem?_eq_getElem h, List.getD_eq_getElem?_getD, List.getElem?_eq_getElem h]
  rfl
theorem nv_flat (l : List Nat) : (nv l).all flatV = true := by
  unfold nv
  rw [List.all_map]
  exact List.all_eq_true.mpr fun _ _ => rfl
theorem nv_in (l : List Nat) (i : Nat) : inV (.int (i : Int)) (nv l) = l.contains i := by
  unfold inV nv
  rw [List.any_map, List.contains_eq_any_beq]
  congr 1
  funext n
  show ((n : Int) == (i : Int)) = (i == n)
  rw [Bool.eq_iff_iff, beq_iff_eq, beq_iff_eq]
  omega
def fEve (pb pf : Addr) (lo : Int) : List (Str × V) := [("burns", .ref pb), ("fire", .ref pf), ("lost", .int lo)]
def fCou (pwo pws : Addr) (mi : Int) (pwh : Addr) : List (Str × V) := [("worth", .ref pwo), ("ways", .ref pws), ("minutes", .int mi), ("where", .ref pwh)]
def fRow (pb pl : Addr) : List (Str × V) := [("breaks", .ref pb), ("last", .ref pl)]
/-- an evening stands at p -/
def EvAt (C : Addr) (G : Hp) (p : Addr) (m : Uw01.Morning) : Prop := ∃ dx pb pf, G p = some (.ins C dx (fEve pb pf (m.lost : Int))) ∧ G pb = some (.lst (bv (brn m.places))) ∧ G pf = some (.lst (nv m.burning))
theorem EvAt.mono {C : Addr} {G G' : Hp} {p : Addr} {m : Uw01.Morning} (h : EvAt C G p m) (s : Same G G') : EvAt C G' p m := by
  obtain ⟨dx, pb, pf, h1, h2, h3⟩ := h
  exact ⟨dx, pb, pf, s _ _ h1, s _ _ h2, s _ _ h3⟩
section
variable {P : Program} {w : World} {K : PySem.W.Frag} {mg : Str → Option Value} {base : Heap} {a : Ads}
def sp_ways_from (K : PySem.W.Frag) : Sp := fun vs H Q _ => ∃ (p wd : Nat) (ps pw : Addr) (sl wi : List Nat), vs = [.int (p : Int), .int (wd : Int), .ref ps, .ref pw] ∧ SqL K H ps (nv sl) ∧ SqL K H pw (nv wi) ∧ p < sl.length ∧ 1 ≤ wd ∧ (∀ x ∈ nearP wd sl.length p, x.1 < wi.length ∧ x.2 < sl.length) ∧ (∀ x ∈ sl, x ≤ 60) ∧ sl.length ≤ 16 ∧
  ∀ H' q, Same H H' → LTup (New H H') q (waysP wd sl wi p) → Q (.ref q) H'
theorem ok_ways_from (T : Txt K mg a) : FnOk P w K mg base CX0 2 a.f_ways_from a.d_ways_from ["place", "wide", "slowness", "wind"] (sp_ways_from K) := by
  refine T.F_ways_from.ok sc_ways_from (fun vs H Q E h => ?_) (fun cdv A outer s H vs Q E hr h => ?_)
  · obtain ⟨p, wd, ps, pw, sl, wi, rfl, _⟩ := h
    rfl
  · obtain ⟨p, wd, ps, pw, sl, wi, rfl, hs, hw, hp, hwd, hn, h60, hl, k⟩ := h
    refine ⟨_, pss_one (ps_ret (pe_lc rfl sc_ways_from.nd (pi_list (pe_call (ok_neighbours T) hr (by rfl) T.g_neighbours T.F_neighbours.kp T.B_neighbours .nil pass0 (pa_cons (pv 1) (pa_cons (pe_callB call_len_seq (by rfl) T.b_len PySem.boot_len (pa_cons (pv 2) pa_nil)) (pa_cons (pv 0) pa_nil)))))
      (own := [("direction", 4), ("neighbour", 5)]) (blkOk_by (by show blkC ["place", "wide", "slowness", "wind", "direction", "neighbour"] (defScope st_ways_from) _ _ = true; decide +kernel))
      (fun _ _ _ _ _ => pg_tupK (K := K) (n := 2) rfl rfl (pgs_cons (pg_name (i := 4) sc_ways_from.nd rfl (Or.inl rfl)) (pgs_cons (pg_name (i := 5) sc_ways_from.nd rfl (Or.inl rfl)) pgs_nil))) (fun _ _ _ _ _ => pts_nil)
      (fun _ _ _ _ _ => pe_tup (pa_cons (pv 5) (pa_cons (pe_op op_mul (pe_op op_add (pe_ix (ix_listK (K := K) rfl) (pv 2) (pv 0) (fun _ _ => rfl)) (pe_ix (ix_listK (K := K) rfl) (pv 2) (pv 5) (fun _ _ => rfl))) (pe_ix (ix_listK (K := K) rfl) (pv 3) (pv 4) (fun _ _ => rfl))) pa_nil))))), ?_⟩
    refine ⟨_, rfl, _, rfl, ps, _, rfl, .inl hs, _, rfl, wd, (nv sl).length, p, rfl, hwd, fun H1 q s1 hL => ?_⟩
    rw [nv_len] at hL
    obtain ⟨ys, hq, hT⟩ := hL
    have hl4 : ys.length ≤ 1000000 := by
      rw [hT.1]
      unfold nearP
      simp only [List.length_append]
      repeat' split
      all_goals (simp only [List.length_cons, List.length_nil]; omega)
    have s60 : ∀ i, (sl.getD i 0) ≤ 60 := fun i => by
      rw [List.getD_eq_getElem?_getD]
      cases e : sl[i]? with
      | none => exact Nat.zero_le _
      | some x => exact h60 x (List.mem_of_getElem? e)
    refine ⟨q, rfl, ⟨_, SqL.of (new_sub _ _ hq)⟩, fun D hD => lc_build (fun i y G => ∃ r pr, (waysP wd sl wi p)[i]? = some pr ∧ y = .ref r ∧ G r = some (.tup [.int (pr.1 : Int), .int (pr.2 : Int)])) (fun i y G G' h s => ?_) hD (SqL.of (new_sub _ _ hq)) hl4 (fun i x hx H2 Q2 s2 k2 => ?_) (fun ys' H' s3 e1 e2 e3 => ?_)⟩
    · obtain ⟨r, pr, h1, h2, h3⟩ := h
      exact ⟨r, pr, h1, h2, s _ _ h3⟩
    · obtain ⟨q', pr, h1, rfl, h3⟩ := hT.2 i x hx
      obtain ⟨n1, n2⟩ := hn pr (List.mem_of_getElem? h1)
      have s02 := s1.trans s2
      refine ⟨q', _, rfl, SqT.of (s2 _ _ (new_sub _ _ h3)), rfl, _, _, rfl, _, _, rfl, rfl, rfl, ?_⟩
      refine ⟨_, rfl, _, rfl, _, rfl, ps, _, _, _, rfl, rfl, s02.seq hs, at_of (j := p) rfl (nv_get hp), _, rfl, _, rfl, ps, _, _, _, rfl, rfl, s02.seq hs, at_of (j := pr.2) rfl (nv_get n2), _, _, rfl, rfl, _, rfl, _, rfl, pw, _, _, _, rfl, rfl, s02.seq hw, at_of (j := pr.1) rfl (nv_get n1), _, _, rfl, rfl, .inl ⟨?_, ?_⟩, (by show 2 ≤ sizeLine; decide), fun r hr => k2 _ _ (same_upd hr) ⟨r, (pr.2, (sl.getD p 0 + sl.getD pr.2 0) * wi.getD pr.1 1), ?_, rfl, ?_⟩⟩
      · omega
      · have h1 := s60 p
        have h2 := s60 pr.2
        omega
      · unfold waysP
        rw [List.getElem?_map, h1]
        rfl
      · rw [new_eq hr, upd_same]
        have e1 : wi.getD pr.1 1 = wi.getD pr.1 0 := by rw [List.getD_eq_getElem?_getD, List.getD_eq_getElem?_getD, List.getElem?_eq_getElem n1]; rfl
        have e : (((sl.getD p 0 + sl.getD pr.2 0) * wi.getD pr.1 1 : Nat) : Int) = ((sl.getD p 0 : Int) + (sl.getD pr.2 0 : Int)) * (wi.getD pr.1 0 : Int) := by
          rw [e1]
          push_cast
          rfl
        show some (HO.tup [V.int (pr.2 : Int), _]) = some (HO.tup [V.int (pr.2 : Int), V.int (((sl.getD p 0 + sl.getD pr.2 0) * wi.getD pr.1 1 : Nat) : Int)])
        rw [e]
    · refine k H' D (s1.trans s3) ⟨ys', by rw [new_eq (s1.free hD)]; exact e2, ?_, fun i y hy => ?_⟩
      · rw [e1, hT.1]
        unfold waysP
        rw [List.length_map]
      · obtain ⟨r, pr, h1, h2, h3⟩ := e3 i y hy
        exact ⟨r, pr, h1, h2, new_mono s1 _ _ h3⟩
/-! Evening -/
def sp_Evening_init (C : Addr) : Sp := fun vs H Q _ => ∃ (p dx pb pf : Addr) (lo : Int), vs = [.ref p, .ref pb, .ref pf, .int lo] ∧ H p = some (.ins C dx []) ∧ Q .non (upd H p (.ins C dx (fEve pb pf lo)))
theorem ok_Evening_init (T : Txt K mg a) : FnOk P w K mg base CX0 1 a.f_Evening_init a.d_Evening_init ["self", "burns", "fire", "lost"] (sp_Evening_init a.c_Evening) := by
  refine T.F_Evening_init.ok sc_Evening_init (fun vs H Q E h => ?_) (fun cdv A outer s H vs Q E hr h => ?_)
  · obtain ⟨p, dx, pb, pf, lo, rfl, _⟩ := h
    rfl
  · obtain ⟨p, dx, pb, pf, lo, rfl, hp, k⟩ := h
    refine ⟨_, pss_cons (ps_fld (pv 0) (pv 1) rfl) (pss_cons (ps_fld (pv 0) (pv 2) rfl) (pss_one (ps_fld (pv 0) (pv 3) rfl))), ?_⟩
    refine ⟨_, rfl, _, rfl, p, _, dx, _, rfl, hp, T.cl_Evening, T.n_Evening_burns, (by show 0 < 1000; decide), ?_⟩
    refine ⟨_, rfl, _, rfl, p, _, dx, _, rfl, upd_same, T.cl_Evening, T.n_Evening_fire, (by show 1 < 1000; decide), ?_⟩
    refine ⟨_, rfl, _, rfl, p, _, dx, _, rfl, upd_same, T.cl_Evening, T.n_Evening_lost, (by show 2 < 1000; decide), ?_⟩
    rw [upd_upd, upd_upd]
    exact k
def sp_may (C : Addr) : Sp := fun vs H Q _ => ∃ (p : Addr) (i : Nat) (m : Uw01.Morning), vs = [.ref p, .int (i : Int)] ∧ EvAt C H p m ∧ i < m.places.length ∧ Q (.bl (m.may i)) H
theorem ok_may (T : Txt K mg a) : FnOk P w K mg base CX0 1 a.f_Evening_may_be_cut a.d_Evening_may_be_cut ["self", "place"] (sp_may a.c_Evening) := by
  refine T.F_Evening_may_be_cut.ok sc_Evening_may_be_cut (fun vs H Q E h => ?_) (fun cdv A outer s H vs Q E hr h => ?_)
  · obtain ⟨p, i, m, rfl, _⟩ := h
    rfl
  · obtain ⟨p, i, m, rfl, ⟨dx, pb, pf, h1, h2, h3⟩, hi, k⟩ := h
    refine ⟨_, pss_one (ps_ret (pe_and (pe_ix ix_list (pe_fld (pv 0) rfl) (pv 1) (fun _ _ => rfl)) (pe_one (pe_cmpR op_notIn_seq (pv 1) (pe_fld (pv 0) rfl) rfl)))), ?_⟩
    have g := bv_get (l := brn m.places) (i := i) (by rw [brn_len]; exact hi)
    have em : m.may i = ((brn m.places).getD i false && !m.burning.contains i) := by
      unfold Uw01.Morning.may
      rw [decide_eq_true hi, Bool.true_and, brn_get]
      congr 1
      rw [Bool.eq_iff_iff, bne_iff_ne, decide_eq_true_iff]
      exact Nat.pos_iff_ne_zero.symm
    rw [em] at k
    refine ⟨_, rfl, p, _, dx, _, _, rfl, h1, T.cl_Evening, T.n_Evening_burns, rfl, _, rfl, pb, _, _, _, rfl, rfl, SqL.of h2, at_of (j := i) rfl g, _, rfl, iteB (fun c => ?_) (fun c => ?_)⟩
    · rw [c, Bool.true_and] at k
      refine ⟨_, rfl, _, rfl, p, _, dx, _, _, rfl, h1, T.cl_Evening, T.n_Evening_fire, rfl, pf, _, rfl, .inl (SqL.of h3), rfl, nv_flat _, ?_⟩
      rw [nv_in]
      exact k
    · rw [c, Bool.false_and] at k
      exact k
def couldL (m : Uw01.Morning) : List Nat := (List.range m.places.length).filter m.may
def sp_could (C : Addr) : Sp := fun vs H Q _ => ∃ (p : Addr) (m : Uw01.Morning), vs = [.ref p] ∧ EvAt C H p m ∧ m.places.length ≤ 16 ∧ ∀ q, H q = none → Q (.ref q) (upd H q (.lst (nv (couldL m))))
theorem ok_could (T : Txt K mg a) : FnOk P w K mg base CX0 2 a.f_Evening_could_burn a.d_Evening_could_burn ["self"] (sp_could a.c_Evening) := by
  refine T.F_Evening_could_burn.ok sc_Evening_could_burn (fun vs H Q E h => ?_) (fun cdv A outer s H vs Q E hr h => ?_)
  · obtain ⟨p, m, rfl, _⟩ := h
    rfl
  · obtain ⟨p, m, rfl, hE, hl, k⟩ := h
    obtain ⟨dx, pb, pf, h1, h2, h3⟩ := id hE
    refine ⟨_, pss_one (ps_ret (pe_lc rfl sc_Evening_could_burn.nd (pi_range1 (by rfl) T.b_range (pa_cons (pe_callB call_len_seq (by rfl) T.b_len PySem.boot_len (pa_cons (pe_fld (pv 0) rfl) pa_nil)) pa_nil)) (own := [("place", 1)]) (blkOk_by (by show blkC ["self", "place"] (defScope st_Evening_could_burn) _ _ = true; decide +kernel))
      (fun _ _ _ _ _ => pg_name (i := 1) sc_Evening_could_burn.nd rfl (Or.inl rfl))
      (fun _ _ _ _ _ => pts_one (pt_val (pe_meth (pv 0) T.cl_Evening T.me_Evening_may_be_cut (ok_may T) hr T.B_Evening_may_be_cut .nil pass0 (pa_cons (pv 1) pa_nil))))
      (fun _ _ _ _ _ => pv 1))), ?_⟩
    have el : (bv (brn m.places)).length = m.places.length := by rw [bv_len, brn_len]
    refine ⟨_, rfl, p, _, dx, _, _, rfl, h1, T.cl_Evening, T.n_Evening_burns, rfl, pb, _, rfl, .inl (SqL.of h2), _, rfl, by omega, by rw [el]; omega, fun D hD => ?_⟩
    have em : (((bv (brn m.places)).length : Nat) : Int).toNat = m.places.length := by rw [el]; rfl
    rw [em]
    refine lc_rpure m.may (fun i => .int (i : Int)) hD (by omega) (fun i hi H1 Q1 s1 q1 => ?_) (fun i hi _ H1 Q1 s1 q1 => ?_) ?_
    · rw [Int.zero_add]
      exact ⟨_, rfl, p, dx, _, rfl, s1 _ _ h1, rfl, _, rfl, p, i, m, rfl, hE.mono s1, hi, _, rfl, q1⟩
    · rw [Int.zero_add]
      exact ⟨_, rfl, q1⟩
    · exact k D hD
def sp_ahead (K : PySem.W.Frag) (C : Addr) : Sp := fun vs H Q _ => ∃ (p : Addr) (pl : List Sw96.Place), vs = [.ref p] ∧ SqL K H p (nv (pl.map (·.slow))) ∧ pl.length ≤ 16 ∧ ∀ H' q, Same H H' → EvAt C (New H H') q ⟨pl, [], 0⟩ → Q (.ref q) H'
theorem ok_ahead (T : Txt K mg a) : FnOk P w K mg base CX0 3 a.f_evening_ahead_of_all a.d_evening_ahead_of_all ["slowness"] (sp_ahead K a.c_Evening) := by
  refine T.F_evening_ahead_of_all.ok sc_evening_ahead_of_all (fun vs H Q E h => ?_) (fun cdv A outer s H vs Q E hr h => ?_)
  · obtain ⟨p, pl, rfl, _⟩ := h
    rfl
  · obtain ⟨p, pl, rfl, hS, hl, k⟩ := h
    refine ⟨_, pss_one (ps_ret (pe_make T.mk_Evening (ok_Evening_init T) hr (by rfl) T.g_Evening T.B_Evening_init .nil pass0 (pa_cons (pe_lc rfl sc_evening_ahead_of_all.nd (pi_list (pv 0)) (own := [("slow", 1)]) (blkOk_by (by show blkC ["slowness", "slow"] (defScope st_evening_ahead_of_all) _ _ = true; decide +kernel))
      (fun _ _ _ _ _ => pg_name (i := 1) sc_evening_ahead_of_all.nd rfl (Or.inl rfl)) (fun _ _ _ _ _ => pts_nil) (fun _ _ _ _ _ => pe_cmpR op_gt (pv 1) pe_int (nomark _))) (pa_cons (pe_lst pa_nil) (pa_cons pe_int pa_nil))))), ?_⟩
    refine ⟨_, rfl, p, rfl, ⟨_, hS⟩, fun D hD => lc_map (fun v => match v with | .int n => .bl (decide (0 < n)) | _ => .non) hD hS (by rw [nv_len, List.length_map]; omega) (fun x hx H1 Q1 s1 q1 => ?_) ?_⟩
    · unfold nv at hx
      obtain ⟨n, _, rfl⟩ := List.mem_map.mp hx
      exact ⟨_, rfl, _, _, rfl, rfl, q1⟩
    · refine ⟨Nat.zero_le _, fun l nl => fun x dx nx ndx nex => ⟨x, dx, D, l, 0, rfl, upd_same, rfl, ?_⟩⟩
      rw [upd_upd]
      obtain ⟨a1, nl0⟩ := upd_none nl
      obtain ⟨b1, nx1⟩ := upd_none nx
      obtain ⟨b2, nx0⟩ := upd_none nx1
      obtain ⟨c1, nd1⟩ := upd_none ndx
      obtain ⟨c2, nd0⟩ := upd_none nd1
      have eb : (nv (pl.map (·.slow))).map (fun v => match v with | .int n => V.bl (decide (0 < n)) | _ => .non) = bv (brn pl) := by
        unfold nv bv brn
        rw [List.map_map, List.map_map, List.map_map]
        refine List.map_congr_left fun x _ => ?_
        show V.bl (decide (0 < ((x.slow : Nat) : Int))) = V.bl (decide (0 < x.slow))
        congr 1
        exact decide_eq_decide.mpr (by omega)
      refine k _ x (fun b o e => ?_) ⟨dx, D, l, ?_, ?_, ?_⟩
      · rw [upd_ne (ne_of_none e nx0), upd_ne (ne_of_none e nd0), upd_ne (ne_of_none e nl0), upd_ne (ne_of_none e hD)]
        exact e
      · rw [new_eq nx0, upd_same]
        rfl
      · rw [new_eq hD, upd_ne b2.symm, upd_ne c2.symm, upd_ne a1.symm, upd_same, eb]
      · rw [new_eq nl0, upd_ne b1.symm, upd_ne c1.symm, upd_same]
        rfl
end
end Fs

set_option Elab.async false
set_option maxRecDepth 100000
set_option maxHeartbeats 2000000
namespace Fs
open PySem PySem.Spec PyProof.Rows L2
open PySem.W (Codec)
section
variable {P : Program} {w : World} {K : PySem.W.Frag} {mg : Str → Option Value} {base : Heap} {a : Ads}
def NearOk (w : Nat) (n k : Nat) : Prop := 1 ≤ w ∧ ∀ i, i < n → ∀ x ∈ nearP w n i, x.1 < k ∧ x.2 < n
def sp_Course_init (a : Ads) : Sp := fun vs H Q _ => ∃ (p dx ps pwo q dxd pwi pwh : Addr) (wd : Int) (w : Nat) (sl wi : List Nat) (mi : Int), vs = [.ref p, .int wd, .ref ps, .ref pwo, .ref q] ∧ H p = some (.ins a.c_Course dx []) ∧ H ps = some (.lst (nv sl)) ∧
  H q = some (.ins a.c_Day dxd (fDay pwi mi pwh)) ∧ H pwi = some (.lst (nv wi)) ∧ (sl = [] ∨ wd = (w : Int)) ∧ NearOk w sl.length wi.length ∧ (∀ x ∈ sl, x ≤ 60) ∧ sl.length ≤ 16 ∧
  ∀ H' pws, But p H H' → H' p = some (.ins a.c_Course dx (fCou pwo pws mi pwh)) → WaysAt (New H H') pws ((List.range sl.length).map (waysP w sl wi)) → Q .non H'
theorem ok_Course_init (T : Txt K mg a) : FnOk P w K mg base CX0 3 a.f_Course_init a.d_Course_init ["self", "wide", "slowness", "worth", "day"] (sp_Course_init a) := by
  refine T.F_Course_init.ok sc_Course_init (fun vs H Q E h => ?_) (fun cdv A outer s H vs Q E hr h => ?_)
  · obtain ⟨p, dx, ps, pwo, q, dxd, pwi, pwh, wd, w', sl, wi, mi, rfl, _⟩ := h
    rfl
  · obtain ⟨p, dx, ps, pwo, q, dxd, pwi, pwh, wd, w', sl, wi, mi, rfl, hp, hs, hq, hwi, hwd, hn, h60, hl, k⟩ := h
    refine ⟨_, pss_cons (ps_fld (pv 0) (pv 3) rfl)
      (pss_cons (ps_fld (pv 0) (pe_lc rfl sc_Course_init.nd (pi_range1 (by rfl) T.b_range (pa_cons (pe_callB call_len_seq (by rfl) T.b_len PySem.boot_len (pa_cons (pv 2) pa_nil)) pa_nil)) (own := [("place", 5)]) (blkOk_by (by show blkC ["self", "wide", "slowness", "worth", "day", "place"] (defScope st_Course_init) _ _ = true; decide +kernel))
        (fun _ _ _ _ _ => pg_name (i := 5) sc_Course_init.nd rfl (Or.inl rfl)) (fun _ _ _ _ _ => pts_nil)
        (fun _ _ _ _ _ => pe_call (ok_ways_from T) hr (by rfl) T.g_ways_from T.F_ways_from.kp T.B_ways_from .nil pass0 (pa_cons (pv 5) (pa_cons (pv 1) (pa_cons (pv 2) (pa_cons (pe_fldK (K := K) rfl (pv 4) rfl) pa_nil)))))) rfl)
      (pss_cons (ps_fld (pv 0) (pe_fld (pv 4) rfl) rfl)
      (pss_one (ps_fld (pv 0) (pe_fld (pv 4) rfl) rfl)))), ?_⟩
    refine ⟨_, rfl, _, rfl, p, _, dx, _, rfl, hp, T.cl_Course, T.n_Course_worth, (by show 0 < 1000; decide), ?_⟩
    have nsp : ps ≠ p := ne_of hs hp (by intro z; cases z)
    have nwp : pwi ≠ p := ne_of hwi hp (by intro z; cases z)
    have nqp : q ≠ p := ne_of hq hp (by intro z; injection z with _ _ z; cases z)
    have b1 : ∀ o, But p H (upd H p o) := fun o b u e hb => by rw [upd_ne hb]; exact e
    have hp1 : ∀ o, upd H p o p = some o := fun o => upd_same
    have em : (((nv sl).length : Nat) : Int).toNat = sl.length := by rw [nv_len]; rfl
    refine ⟨_, rfl, ps, _, rfl, .inl (SqL.of (b1 _ _ _ hs nsp)), _, rfl, by omega, by rw [nv_len]; omega, fun D hD => ?_⟩
    rw [em]
    obtain ⟨nDp, nD⟩ := upd_none hD
    refine lc_rbuild (fun i y G => ∃ r, y = .ref r ∧ LTup G r (waysP w' sl wi i)) (fun i y G G' h s => ?_) hD (by omega) (fun i hi H2 Q2 s2 k2 => ?_) (fun ys H2 s2 e1 e2 e3 => ?_)
    · obtain ⟨r, h1, h2⟩ := h
      exact ⟨r, h1, h2.mono s⟩
    · have hw' : wd = (w' : Int) := by
        rcases hwd with z | z
        · rw [z] at hi
          simp at hi
        · exact z
      refine ⟨rfl, _, rfl, _, rfl, _, rfl, _, rfl, q, _, dxd, _, _, rfl, s2 _ _ (b1 _ _ _ hq nqp), T.cl_Day, T.n_Day_wind, rfl, i, w', ps, pwi, sl, wi, ?_, SqL.of (s2 _ _ (b1 _ _ _ hs nsp)), SqL.of (s2 _ _ (b1 _ _ _ hwi nwp)), hi, hn.1, hn.2 i hi, h60, hl, fun H3 r s3 hL => k2 _ _ s3 ⟨r, rfl, hL⟩⟩
      rw [Int.zero_add, hw']
      rfl
    · have p2 := s2 _ _ (hp1 (.ins a.c_Course dx (putF "worth" (.ref pwo) [])))
      have b2 : But p H H2 := fun b o e hb => s2 _ _ (b1 _ _ _ e hb)
      have nD2 : D ≠ p := nDp
      refine ⟨_, rfl, p, _, dx, _, rfl, p2, T.cl_Course, T.n_Course_ways, (by show 1 < 1000; decide), ?_⟩
      have q3 : ∀ o, upd H2 p o q = some (.ins a.c_Day dxd (fDay pwi mi pwh)) := fun o => by rw [upd_ne nqp]; exact b2 _ _ hq nqp
      refine ⟨_, rfl, q, _, dxd, _, _, rfl, q3 _, T.cl_Day, T.n_Day_minutes, rfl, _, rfl, p, _, dx, _, rfl, upd_same, T.cl_Course, T.n_Course_minutes, (by show 2 < 1000; decide), ?_⟩
      rw [upd_upd]
      refine ⟨_, rfl, q, _, dxd, _, _, rfl, q3 _, T.cl_Day, T.n_Day_where, rfl, _, rfl, p, _, dx, _, rfl, upd_same, T.cl_Course, T.n_Course_where, (by show 3 < 1000; decide), ?_⟩
      rw [upd_upd]
      refine k _ D (fun b o e hb => by rw [upd_ne hb]; exact b2 _ _ e hb) upd_same ?_
      have ns : ∀ o, Same (New (upd H p (.ins a.c_Course dx (putF "worth" (.ref pwo) []))) H2) (New H (upd H2 p o)) := fun o b u e => by
        obtain ⟨g1, g2⟩ := new_some e
        obtain ⟨g3, g4⟩ := upd_none g1
        rw [new_eq g4, upd_ne g3]
        exact g2
      refine ⟨ys, ?_, by rw [e1, List.length_map, List.length_range], fun i y hy => ?_⟩
      · rw [new_eq nD, upd_ne nD2]
        exact e2
      · obtain ⟨r, h1, h2⟩ := e3 i y hy
        have hi : i < sl.length := by rw [← e1]; exact (List.getElem?_eq_some_iff.mp hy).1
        exact ⟨r, _, by rw [List.getElem?_map, List.getElem?_range hi]; rfl, h1, h2.mono (ns _)⟩
def sp_worth_together (K : PySem.W.Frag) (a : Ads) : Sp := fun vs H Q _ => ∃ (p dx pwo pws pwh q : Addr) (mi : Int) (wo l : List Nat), vs = [.ref p, .ref q] ∧ H p = some (.ins a.c_Course dx (fCou pwo pws mi pwh)) ∧ H pwo = some (.lst (nv wo)) ∧ SqL K H q (nv l) ∧ (∀ i ∈ l, i < wo.length) ∧ l.length ≤ 1000 ∧
  ∀ H', Same H H' → Q (.int ((l.map fun i => wo.getD i 0).sum : Nat)) H'
theorem ni_sum : ∀ l : List Nat, (l.map fun (n : Nat) => (n : Int)).sum = (l.sum : Int)
  | [] => rfl
  | x :: l => by rw [List.map_cons, List.sum_cons, ni_sum l, List.sum_cons]; omega
theorem ok_worth_together (T : Txt K mg a) : FnOk P w K mg base CX0 1 a.f_Course_worth_together a.d_Course_worth_together ["self", "places"] (sp_worth_together K a) := by
  refine T.F_Course_worth_together.ok sc_Course_worth_together (fun vs H Q E h => ?_) (fun cdv A outer s H vs Q E hr h => ?_)
  · obtain ⟨p, dx, pwo, pws, pwh, q, mi, wo, l, rfl, _⟩ := h
    rfl
  · obtain ⟨p, dx, pwo, pws, pwh, q, mi, wo, l, rfl, hp, hw, hq, hi, hl, k⟩ := h
    refine ⟨_, pss_one (ps_ret (pe_callB (cr_sum rfl) (by rfl) T.b_sum boot_sum (pa_cons (pe_lc rfl sc_Course_worth_together.nd (pi_list (pv 1)) (own := [("place", 2)]) (blkOk_by (by show blkC ["self", "places", "place"] (defScope st_Course_worth_together) _ _ = true; decide +kernel))
      (fun _ _ _ _ _ => pg_name (i := 2) sc_Course_worth_together.nd rfl (Or.inl rfl)) (fun _ _ _ _ _ => pts_nil)
      (fun _ _ _ _ _ => pe_ix (ix_listK (K := K) rfl) (pe_fldK (K := K) rfl (pv 0) rfl) (pv 2) (fun _ _ => rfl))) pa_nil))), ?_⟩
    refine ⟨_, rfl, q, rfl, ⟨_, hq⟩, fun D hD => lc_map (fun v => match v with | .int n => .int (wo.getD n.toNat 0 : Int) | _ => .non) hD hq (by rw [nv_len]; omega) (fun x hx H1 Q1 s1 q1 => ?_) ?_⟩
    · unfold nv at hx
      obtain ⟨n, hn, rfl⟩ := List.mem_map.mp hx
      exact ⟨_, rfl, p, _, dx, _, _, rfl, s1 _ _ hp, T.cl_Course, T.n_Course_worth, rfl, _, rfl, pwo, _, _, _, rfl, rfl, SqL.of (s1 _ _ hw), at_of (j := n) rfl (nv_get (hi n hn)), q1⟩
    · refine ⟨D, l.map (fun i => (wo.getD i 0 : Int)), rfl, ?_, ?_⟩
      · have e : (nv l).map (fun v => match v with | .int n => V.int (wo.getD n.toNat 0 : Int) | _ => .non) = (l.map (fun i => (wo.getD i 0 : Int))).map V.int := by
          unfold nv
          rw [List.map_map, List.map_map]
          rfl
        rw [e]
        exact SqL.of upd_same
      · have e : (l.map (fun i => (wo.getD i 0 : Int))).sum = ((l.map fun i => wo.getD i 0).sum : Nat) := by
          rw [← ni_sum, List.map_map]
          rfl
        rw [e]
        exact k _ (same_upd hD)
end
end Fs

set_option Elab.async false
set_option maxRecDepth 100000
set_option maxHeartbeats 2000000
namespace Fs
open PySem PySem.Spec PyProof.Rows L2
open PySem.W (Codec)
theorem nv_at {ts : List Nat} {i x : Nat} (h : At ts i x) : (nv ts)[i]? = some (.int (x : Int)) := by
  unfold nv
  rw [List.getElem?_map, show ts[i]? = some x from h]
  rfl
theorem nv_some {l : List Nat} {i : Nat} {y : V} (h : (nv l)[i]? = some y) : ∃ x, l[i]? = some x ∧ y = .int (x : Int) := by
  unfold nv at h
  rw [List.getElem?_map] at h
  cases e : l[i]? with
  | none => rw [e] at h; cases h
  | some x => rw [e] at h; exact ⟨x, rfl, (Option.some.inj h).symm⟩
theorem nv_set (l : List Nat) (i x : Nat) : (nv l).set i (.int (x : Int)) = nv (l.set i x) := by
  unfold nv
  rw [List.map_set]
theorem ixN_nat {n i : Nat} (h : i < n) : ixN n (i : Int) = some i := by
  unfold ixN
  rw [if_pos (by omega), if_pos (by omega)]
  rfl
theorem sum_le : ∀ (l : List Nat) (b : Nat), (∀ x ∈ l, x ≤ b) → l.sum ≤ l.length * b
  | [], _, _ => by simp
  | x :: l, b, h => by
    have h1 := sum_le l b fun y hy => h y (List.mem_cons_of_mem _ hy)
    have h2 := h x (List.mem_cons_self ..)
    rw [List.sum_cons, List.length_cons, Nat.add_mul]
    omega
theorem TInv.sum {f : Sw96.Forest} {mi : Nat} {ts : List Nat} {pend : Nat → Prop} (I : TInv f mi ts pend) (hn : f.places.length ≤ 16) (hm : mi ≤ 100000) : ts.sum ≤ 1600016 := by
  have h1 := sum_le ts (mi + 1) fun x hx => by
    obtain ⟨i, hi⟩ := List.getElem?_of_mem hx
    exact I.top i x hi
  have h2 : ts.length * (mi + 1) ≤ 16 * 100001 := Nat.mul_le_mul (by rw [I.len]; exact hn) (by omega)
  omega
section
variable {P : Program} {w : World} {K : PySem.W.Frag} {mg : Str → Option Value} {base : Heap} {a : Ads}
def sp_times (a : Ads) : Sp := fun vs H Q _ => ∃ (p dx pwo pws pwh pb ps : Addr) (mi : Nat) (f : Sw96.Forest) (bs : List Bool) (st : List Nat) (ws : List (List (Nat × Nat))), vs = [.ref p, .ref pb, .ref ps] ∧
  H p = some (.ins a.c_Course dx (fCou pwo pws (mi : Int) pwh)) ∧ WaysAt H pws ws ∧ H pb = some (.lst (bv bs)) ∧ H ps = some (.lst (nv st)) ∧ bs.length = f.places.length ∧ ws.length = f.places.length ∧ f.places.length ≤ 16 ∧ mi ≤ 100000 ∧ st.length ≤ 1000 ∧
  (∀ i ∈ st, i < f.places.length) ∧ (∀ i, i < f.places.length → f.fires.contains i = st.contains i) ∧ (∀ i ∈ st, f.slow i ≠ 0) ∧ (∀ i L, ws[i]? = some L → Steps f (fun j => bs.getD j false) i L ∧ ∀ x ∈ L, x.1 < f.places.length) ∧
  ∀ H' q ts, Same H H' → H q = none → H' q = some (.lst (nv ts)) → TInv f mi ts (fun _ => False) → Q (.ref q) H'
theorem ok_times (T : Txt K mg a) : FnOk P w K mg base CX0 1 a.f_Course_times a.d_Course_times ["self", "burns", "starts"] (sp_times a) := by
  refine T.F_Course_times.ok sc_Course_times (fun vs H Q E h => ?_) (fun cdv A outer s H vs Q E hr h => ?_)
  · obtain ⟨p, dx, pwo, pws, pwh, pb, ps, mi, f, bs, st, ws, rfl, _⟩ := h
    rfl
  · obtain ⟨p, dx, pwo, pws, pwh, pb, ps, mi, f, bs, st, ws, rfl, hp, hws, hb, hs, lb, lw, n16, hmi, lst, st1, st2, st3, hS, k⟩ := h
    obtain ⟨yws, hw1, hw2, hw3⟩ := hws
    have nd := sc_Course_times.nd
    refine ⟨_, pss_cons (ps_set (i := 3) nd rfl (Or.inr rfl) (pe_op op_add (pe_fld (pv 0) rfl) pe_int))
      (pss_cons (ps_setLc (i := 4) rfl nd rfl rfl (sw_true rfl rfl rfl rfl) (pi_list (pv 1)) (own := [("place", 5)]) (blkOk_by (by show blkC ["self", "burns", "starts", "too_late", "times", "place", "reached", "sooner", "neighbour", "taken"] (defScope st_Course_times) _ _ = true; decide +kernel))
        (fun _ _ _ _ _ => pg_name (i := 5) nd rfl (Or.inl rfl)) (fun _ _ _ _ _ => pts_nil) (fun _ _ _ _ _ => pv 3))
      (pss_cons (ps_for PassesOwn.never rfl (pi_list (pv 2)) (pg_name (i := 5) nd rfl (Or.inl rfl)) (pss_one (ps_asg pe_int (pg_sub (pv 4) (pv 5) set_list))))
      (pss_cons (ps_set (i := 6) nd rfl (Or.inl rfl) (pv 2))
      (pss_cons (ps_while PassesOwn.never (pt_cmpR op_gt (pe_callB call_len_seq (by rfl) T.b_len PySem.boot_len (pa_cons (pv 6) pa_nil)) pe_int (nomark _))
        (pss_cons (ps_set (i := 7) nd rfl (Or.inl rfl) (pe_lst pa_nil))
        (pss_cons (ps_for PassesOwn.never rfl (pi_list (pv 6)) (pg_name (i := 5) nd rfl (Or.inl rfl))
          (pss_one (ps_for PassesOwn.never rfl (pi_list (pe_ix ix_list (pe_fld (pv 0) rfl) (pv 5) (fun _ _ => rfl))) (pg_tup rfl (pgs_cons (pg_name (i := 8) nd rfl (Or.inl rfl)) (pgs_cons (pg_name (i := 9) nd rfl (Or.inl rfl)) pgs_nil)))
            (pss_one (ps_if (pw_and (pt_val (pe_ix ix_list (pv 1) (pv 8) (fun _ _ => rfl))) (pw_and1 (pt_cmpR op_lt (pe_op op_add (pe_ix ix_list (pv 4) (pv 5) (fun _ _ => rfl)) (pv 9)) (pe_ix ix_list (pv 4) (pv 8) (fun _ _ => rfl)) (nomark _)))).pt
              (pss_cons (ps_asg (pe_op op_add (pe_ix ix_list (pv 4) (pv 5) (fun _ _ => rfl)) (pv 9)) (pg_sub (pv 4) (pv 8) set_list))
                (pss_one (ps_expr (pe_bm PySem.F.plainAttrs_list PySem.F.slot_list_append PySem.F.type_list_append mt_append (pv 7) (pa_cons (pv 8) pa_nil))))) pss_nil)))))
        (pss_one (ps_set (i := 6) nd rfl (Or.inl rfl) (pv 7))))))
      (pss_one (ps_ret (pv 4))))))), ?_⟩
    let fr : Addr → Option V → Option V → Option V → Option V → Option V → L2.St := fun pt v5 v6 v7 v8 v9 => [some (.ref p), some (.ref pb), some (.ref ps), some (.int ((mi : Int) + 1)), some (.ref pt), v5, v6, v7, v8, v9]
    refine ⟨_, rfl, p, _, dx, _, _, rfl, hp, T.cl_Course, T.n_Course_minutes, rfl, _, _, rfl, rfl, ?_⟩
    refine ⟨_, rfl, pb, rfl, ⟨_, SqL.of hb⟩, fun pt npt => lc_map (fun _ => .int ((mi : Int) + 1)) npt (SqL.of hb) (by rw [bv_len]; omega) (fun x hx H1 Q1 s1 q1 => ⟨_, rfl, q1⟩) ?_⟩
    have e0 : (bv bs).map (fun _ => V.int ((mi : Int) + 1)) = nv (List.replicate f.places.length (mi + 1)) := by
      unfold bv nv
      rw [List.map_map, List.map_replicate, ← lb]
      exact List.map_const' ..
    rw [e0]
    -- for place in starts
    refine ⟨_, rfl, ps, rfl, ⟨_, SqL.of (same_upd npt _ _ hs)⟩, for_list (xs := nv st) (fun i σ H' => ∃ v5 ts, σ = fr pt v5 none none none none ∧ H' pt = some (.lst (nv ts)) ∧ Same H H' ∧ ts.length = f.places.length ∧ ∀ j, j < f.places.length → (j ∈ st.take i → At ts j 0) ∧ (j ∉ st.take i → At ts j (mi + 1))) ?_ ?_ ?_ ?_⟩
    · refine ⟨none, _, rfl, upd_same, same_upd npt, List.length_replicate, fun j hj => ⟨fun z => by simp at z, fun _ => ?_⟩⟩
      show (List.replicate f.places.length (mi + 1))[j]? = some (mi + 1)
      rw [List.getElem?_replicate, if_pos hj]
    · rintro i σ H' _ ⟨v5, ts, rfl, h1, h2, _⟩
      exact SqL.of (h2 _ _ hs)
    · rintro i x σ H' hx ⟨v5, ts, rfl, h1, h2, h3, h4⟩
      obtain ⟨y, hy, rfl⟩ := nv_some hx
      have hyn : y < f.places.length := st1 y (List.mem_of_getElem? hy)
      refine ⟨_, rfl, _, rfl, pt, _, _, y, rfl, rfl, h1, ixN_nat (by rw [nv_len, h3]; exact hyn), some (.int (y : Int)), ts.set y 0, rfl, ?_, ?_, by rw [List.length_set]; exact h3, fun j hj => ?_⟩
      · rw [upd_same]
        exact congrArg (fun z => some (HO.lst z)) (nv_set ts y 0)
      · intro b o e
        rw [upd_ne (ne_of_none e npt)]
        exact h2 _ _ e
      · rw [take_snoc hy]
        by_cases ej : j = y
        · subst ej
          refine ⟨fun _ => At.set_same (by rw [h3]; exact hj), fun z => absurd (List.mem_append_right _ (List.mem_singleton.mpr rfl)) z⟩
        · obtain ⟨g1, g2⟩ := h4 j hj
          refine ⟨fun z => (At.set_ne ej).mpr (g1 ?_), fun z => (At.set_ne ej).mpr (g2 fun q => z (List.mem_append_left _ q))⟩
          rcases List.mem_append.mp z with q | q
          · exact q
          · exact absurd (List.mem_singleton.mp q) ej
    · rintro σ H1 ⟨v5, ts0, rfl, h1, h2, h3, h4⟩
      rw [nv_len, List.take_length] at h4
      -- reached = starts
      refine ⟨_, rfl, ?_⟩
      have mem_c : ∀ i, st.contains i = true ↔ i ∈ st := fun i => by rw [List.contains_eq_mem, decide_eq_true_iff]
      have I0 : TInv f mi ts0 (fun i => i ∈ st) := by
        refine (TInv.start (f := f) (mi := mi) h3 (fun i hi hc => ?_) (fun i hi hc => ?_) (fun i hi hc => ?_)).mono' fun i hl hi => ?_
        · rw [st2 i hi] at hc
          exact st3 i ((mem_c i).mp hc)
        · rw [st2 i hi] at hc
          exact (h4 i hi).1 ((mem_c i).mp hc)
        · rw [st2 i hi] at hc
          refine (h4 i hi).2 fun z => ?_
          rw [(mem_c i).mpr z] at hc
          cases hc
        · rw [st2 i hl] at hi
          exact (mem_c i).mp hi
      have nspt : ps ≠ pt := ne_of_none hs npt
      refine ⟨fun m σ H' => ∃ v5 v7 v8 v9 pr rs ts, σ = fr pt v5 (some (.ref pr)) v7 v8 v9 ∧ H' pt = some (.lst (nv ts)) ∧ H' pr = some (.lst (nv rs)) ∧ pr ≠ pt ∧ Same H H' ∧ TInv f mi ts (fun i => i ∈ rs) ∧ (∀ i ∈ rs, i < f.places.length) ∧ rs.length ≤ 1700000 ∧ m = 2 * ts.sum + (if rs = [] then 0 else 1),
        ⟨_, v5, none, none, none, ps, st, ts0, rfl, h1, h2 _ _ hs, nspt, h2, I0, st1, by omega, rfl⟩, ?_⟩
      rintro m σ H2 ⟨v5, v7, v8, v9, pr, rs, ts, rfl, g1, g2, g3, g4, g5, g6, g7, rfl⟩
      refine ⟨_, rfl, pr, _, rfl, .inl (SqL.of g2), _, _, rfl, rfl, _, rfl, iteB (fun c => ?_) (fun c => ?_)⟩
      · have hne : rs ≠ [] := by
          intro z
          subst z
          have := of_decide_eq_true c
          simp [nv] at this
        rw [if_neg hne]
        refine ⟨_, fun σ' H'' z => z, Nat.zero_le _, fun pq npq => ?_⟩
        have ntq : pt ≠ pq := ne_of_none g1 npq
        have nrq : pr ≠ pq := ne_of_none g2 npq
        have nHq : H pq = none := g4.free npq
        refine ⟨_, rfl, pr, rfl, ⟨_, SqL.of (same_upd npq _ _ g2)⟩, for_list (xs := nv rs) (fun i σ H' => ∃ v5 v8 v9 ts' so, σ = fr pt v5 (some (.ref pr)) (some (.ref pq)) v8 v9 ∧ H' pt = some (.lst (nv ts')) ∧ H' pq = some (.lst (nv so)) ∧ H' pr = some (.lst (nv rs)) ∧ Same H H' ∧
          TInv f mi ts' (fun j => j ∈ rs.drop i ∨ j ∈ so) ∧ (∀ j ∈ so, j < f.places.length) ∧ ts'.sum + so.length ≤ ts.sum) ?_ ?_ ?_ ?_⟩
        · refine ⟨v5, v8, v9, ts, [], rfl, same_upd npq _ _ g1, upd_same, same_upd npq _ _ g2, g4.trans (same_upd npq), g5.mono fun i hi => .inl hi, fun j hj => (by simp at hj), Nat.le_refl _⟩
        · rintro i σ H' _ ⟨_, _, _, _, _, _, _, _, q, _⟩
          exact SqL.of q
        · rintro i x σ H3 hx ⟨u5, u8, u9, ts1, so1, rfl, t1, t2, t3, t4, t5, t6, t7⟩
          obtain ⟨y, hy, rfl⟩ := nv_some hx
          have hyn : y < f.places.length := g6 y (List.mem_of_getElem? hy)
          obtain ⟨x0, hx0⟩ : ∃ z, yws[y]? = some z := ⟨yws[y]'(by rw [hw2, lw]; exact hyn), List.getElem?_eq_getElem _⟩
          obtain ⟨r, L, hL1, rfl, ys, hL2, hL3⟩ := hw3 y x0 hx0
          obtain ⟨St, hLn⟩ := hS y L hL1
          have dr : rs.drop i = y :: rs.drop (i + 1) := List.drop_eq_getElem_cons (List.getElem?_eq_some_iff.mp hy).1 ▸ by rw [(List.getElem?_eq_some_iff.mp hy).2]
          refine ⟨_, rfl, p, _, dx, _, _, rfl, t4 _ _ hp, T.cl_Course, T.n_Course_ways, rfl, _, rfl, pws, _, _, _, rfl, rfl, SqL.of (t4 _ _ hw1), at_of (j := y) rfl hx0, r, rfl, ⟨_, SqL.of (t4 _ _ hL2)⟩,
            for_list (xs := ys) (fun j σ H' => ∃ v8 v9 ts' so xi, σ = fr pt (some (.int (y : Int))) (some (.ref pr)) (some (.ref pq)) v8 v9 ∧ H' pt = some (.lst (nv ts')) ∧ H' pq = some (.lst (nv so)) ∧ H' pr = some (.lst (nv rs)) ∧ Same H H' ∧
              TInv f mi ts' (fun j => j ∈ rs.drop i ∨ j ∈ so) ∧ (∀ j ∈ so, j < f.places.length) ∧ ts'.sum + so.length ≤ ts.sum ∧ At ts' y xi ∧ Done ts' (fun j => bs.getD j false) xi (L.take j)) ?_ ?_ ?_ ?_⟩
          · exact ⟨u8, u9, ts1, so1, _, rfl, t1, t2, t3, t4, t5, t6, t7, At.of (by rw [t5.len]; exact hyn), fun _ _ h => by simp at h⟩
          · rintro j σ H' _ ⟨_, _, _, _, _, _, _, _, _, q, _⟩
            exact SqL.of (q _ _ hL2)
          · rintro j z σ H4 hz ⟨u8, u9, ts2, so2, xi, rfl, d1, d2, d3, d4, d5, d6, d7, d8, d9⟩
            obtain ⟨q', pr', hl1, rfl, hl2⟩ := hL3.2 j z hz
            obtain ⟨nb, c⟩ := pr'
            have hnb : nb < f.places.length := hLn _ (List.mem_of_getElem? hl1)
            obtain ⟨yv, hyn2⟩ : ∃ z, At ts2 nb z := ⟨_, At.of (by rw [d5.len]; exact hnb)⟩
            refine ⟨q', _, rfl, SqT.of (d4 _ _ hl2), rfl, _, _, rfl, _, _, rfl, rfl, ?_⟩
            refine ⟨_, rfl, _, rfl, pb, _, _, _, rfl, rfl, SqL.of (d4 _ _ hb), at_of (j := nb) rfl (bv_get (by rw [lb]; exact hnb)), _, rfl, iteB (fun cb => ?_) (fun cb => ?_)⟩
            · refine ⟨_, rfl, _, rfl, pt, _, _, _, rfl, rfl, SqL.of d1, at_of (j := y) rfl (nv_at d8), _, rfl, _, _, rfl, rfl, _, rfl, _, rfl, pt, _, _, _, rfl, rfl, SqL.of d1, at_of (j := nb) rfl (nv_at hyn2), _, _, rfl, rfl, _, rfl, iteB (fun cc => ?_) (fun cc => ?_)⟩
              · have lt : xi + c < yv := by
                  have := of_decide_eq_true cc
                  have e : ((c : Nat) : Int) = (c : Int) := rfl
                  simp only at this
                  omega
                refine ⟨_, rfl, _, rfl, pt, _, _, _, rfl, rfl, SqL.of d1, at_of (j := y) rfl (nv_at d8), _, rfl, _, _, rfl, rfl, _, rfl, _, rfl, pt, _, _, nb, rfl, rfl, d1, ixN_nat (by rw [nv_len, d5.len]; exact hnb), ?_⟩
                have es : (nv ts2).set nb (.int ((xi : Int) + (c : Int))) = nv (ts2.set nb (xi + c)) := by
                  have := nv_set ts2 nb (xi + c)
                  rw [← this]
                  congr 2
                have q2 : ∀ o, upd H4 pt o pq = some (.lst (nv so2)) := fun o => by rw [upd_ne ntq.symm]; exact d2
                have sm := sum_set hyn2 lt
                have tb := g5.sum n16 hmi
                refine ⟨_, rfl, .inl ⟨rfl, _, SqL.of (q2 _)⟩, _, rfl, pq, _, _, rfl, rfl, q2 _, by rw [nv_len, sizeLine_eq]; omega, ?_⟩
                have nys : y ≠ nb := by
                  intro z
                  subst z
                  have := d8.inj hyn2
                  omega
                refine ⟨_, _, ts2.set nb (xi + c), so2 ++ [nb], xi, rfl, ?_, ?_, ?_, ?_, (d5.step St (List.mem_of_getElem? hl1) cb d8 hyn2 lt).mono ?_, ?_, ?_, (At.set_ne nys).mpr d8, ?_⟩
                · rw [upd_ne ntq, upd_same, es]
                · rw [upd_same]
                  unfold nv
                  rw [List.map_append]
                  rfl
                · rw [upd_ne nrq, upd_ne g3]
                  exact d3
                · intro b o e
                  rw [upd_ne (ne_of_none e nHq), upd_ne (ne_of_none e npt)]
                  exact d4 _ _ e
                · rintro i' ((q | q) | q)
                  · exact .inl q
                  · exact .inr (List.mem_append_left _ q)
                  · exact .inr (List.mem_append_right _ (List.mem_singleton.mpr q))
                · intro i' hi'
                  rcases List.mem_append.mp hi' with q | q
                  · exact d6 i' q
                  · rw [List.mem_singleton.mp q]
                    exact hnb
                · rw [List.length_append]
                  show _ + (so2.length + 1) ≤ _
                  omega
                · rw [take_snoc hl1]
                  intro j' c' hm hbj
                  rcases List.mem_append.mp hm with q | q
                  · exact (d9.step hyn2 lt) j' c' q hbj
                  · have := List.mem_singleton.mp q
                    injection this with e1 e2
                    subst e1
                    subst e2
                    exact ⟨_, At.set_same (by rw [d5.len]; exact hnb), Nat.le_refl _⟩
              · have ge : yv ≤ xi + c := by
                  have := of_decide_eq_false cc
                  simp only at this
                  omega
                refine ⟨_, _, ts2, so2, xi, rfl, d1, d2, d3, d4, d5, d6, d7, d8, ?_⟩
                rw [take_snoc hl1]
                intro j' c' hm hbj
                rcases List.mem_append.mp hm with q | q
                · exact d9 j' c' q hbj
                · have := List.mem_singleton.mp q
                  injection this with e1 e2
                  subst e1
                  subst e2
                  exact ⟨yv, hyn2, ge⟩
            · refine iteF ⟨_, _, ts2, so2, xi, rfl, d1, d2, d3, d4, d5, d6, d7, d8, ?_⟩
              rw [take_snoc hl1]
              intro j' c' hm hbj
              rcases List.mem_append.mp hm with q | q
              · exact d9 j' c' q hbj
              · have := List.mem_singleton.mp q
                injection this with e1 e2
                subst e1
                have hbj' : bs.getD j' false = true := hbj
                rw [cb] at hbj'
                cases hbj'
          · rintro σ H5 ⟨u8, u9, ts2, so2, xi, rfl, d1, d2, d3, d4, d5, d6, d7, d8, d9⟩
            rw [hL3.1, List.take_length] at d9
            refine ⟨_, u8, u9, ts2, so2, rfl, d1, d2, d3, d4, d5.turn St d8 d9 fun k' hk' => ?_, d6, d7⟩
            by_cases ek : k' = y
            · exact .inr ek
            · refine .inl fun z => hk' ?_
              rw [dr] at z
              rcases z with z | z
              · rcases List.mem_cons.mp z with q | q
                · exact absurd q ek
                · exact .inl q
              · exact .inr z
        · rintro σ H5 ⟨u5, u8, u9, ts1, so1, rfl, t1, t2, t3, t4, t5, t6, t7⟩
          have tb := g5.sum n16 hmi
          refine ⟨_, rfl, 2 * ts1.sum + (if so1 = [] then 0 else 1), ?_, u5, _, u8, u9, pq, so1, ts1, rfl, t1, t2, ntq.symm, t4, t5.mono ?_, t6, by omega, rfl⟩
          · by_cases hso : so1 = []
            · rw [if_pos hso]
              omega
            · rw [if_neg hso]
              have : 0 < so1.length := List.length_pos_iff.mpr hso
              omega
          · rintro i' (q | q)
            · rw [nv_len, List.drop_length] at q
              simp at q
            · exact q
      · have hne : rs = [] := by
          have c' := of_decide_eq_false c
          simp only [nv_len] at c'
          exact List.eq_nil_of_length_eq_zero (by omega)
        subst hne
        refine ⟨_, rfl, k H2 pt ts g4 npt g1 (g5.mono fun i hi => by simp at hi)⟩
end
end Fs

set_option Elab.async false
set_option maxRecDepth 100000
set_option maxHeartbeats 2000000
namespace Fs
open PySem PySem.Spec PyProof.Rows L2
open PySem.W (Codec)
open Uw01 (Morning Day Season slow worth out breakOut)
theorem bv_set (l : List Bool) (i : Nat) (x : Bool) : (bv l).set i (.bl x) = bv (l.set i x) := by
  unfold bv
  rw [List.map_set]
/-- a course of the season s on the day d stands at p -/
def CoS (C : Addr) (G : Hp) (p : Addr) (s : Season) (d : Day) : Prop := ∃ dx pwo pws pwh, G p = some (.ins C dx (fCou pwo pws (d.minutes : Int) pwh)) ∧ G pwo = some (.lst (nv (s.places.map (·.worth)))) ∧
  WaysAt G pws ((List.range s.places.length).map (waysP s.width (s.places.map (·.slow)) d.wind)) ∧ G pwh = some (.lst (nv d.strikes))
theorem CoS.mono {C : Addr} {G G' : Hp} {p : Addr} {s : Season} {d : Day} (h : CoS C G p s d) (e : Same G G') : CoS C G' p s d := by
  obtain ⟨dx, pwo, pws, pwh, h1, h2, h3, h4⟩ := h
  exact ⟨dx, pwo, pws, pwh, e _ _ h1, e _ _ h2, h3.mono e, e _ _ h4⟩
section
variable {P : Program} {w : World} {K : PySem.W.Frag} {mg : Str → Option Value} {base : Heap} {a : Ads}
def sp_evening_with (a : Ads) : Sp := fun vs H Q _ => ∃ (p pe : Addr) (s : Season) (d : Day) (m : Morning) (b : Option Nat), vs = [.ref p, .int (breakOut b : Int), .ref pe] ∧ CoS a.c_Course H p s d ∧ EvAt a.c_Evening H pe m ∧ Good s ∧ d ∈ s.days ∧ MOk s.places m ∧ MayB m b ∧
  ∀ H' q, Same H H' → EvAt a.c_Evening (New H H') q ((m.cut b).next s.width d) → Q (.ref q) H'
theorem ok_evening_with (T : Txt K mg a) : FnOk P w K mg base CX0 3 a.f_Course_evening_with a.d_Course_evening_with ["self", "told", "before"] (sp_evening_with a) := by
  refine T.F_Course_evening_with.ok sc_Course_evening_with (fun vs H Q E h => ?_) (fun cdv A outer s0 H vs Q E hr h => ?_)
  · obtain ⟨p, pe, s, d, m, b, rfl, _⟩ := h
    rfl
  · obtain ⟨p, pe, s, d, m, b, rfl, ⟨dxc, pwo, pws, pwh, c1, c2, c3, c4⟩, ⟨dxe, pb, pf, h1, h2, h3⟩, g, hd, mo, may, k⟩ := h
    obtain ⟨t0, g0⟩ := T.k_NO_BREAK
    have nd := sc_Course_evening_with.nd
    have hr1 := hr.mono (j := 1) (by decide)
    refine ⟨_, pss_cons (ps_set (i := 3) nd rfl (Or.inr rfl) (pe_callTy call_list_of (by rfl) T.b_list boot_list (pa_cons (pe_fld (pv 2) rfl) pa_nil)))
      (pss_cons (ps_set (i := 4) nd rfl (Or.inl rfl) (pe_fld (pv 2) rfl))
      (pss_cons (ps_cut (ps_if (pt_cmpR op_ne (pv 1) (pe_glob (v := .int 0) (by rfl) g0 ⟨_, rfl⟩) (nomark _))
        (pss_cons (ps_asg pe_bl (pg_sub (pv 3) (pe_call (ok_place_of T) hr1 (by rfl) T.g_place_of T.F_place_of.kp T.B_place_of .nil pass0 (pa_cons (pv 1) pa_nil)) set_list))
          (pss_one (ps_set (i := 4) nd rfl (Or.inl rfl) (pe_op op_add (pv 4) (pe_ix ix_list (pe_fld (pv 0) rfl) (pe_call (ok_place_of T) hr1 (by rfl) T.g_place_of T.F_place_of.kp T.B_place_of .nil pass0 (pa_cons (pv 1) pa_nil)) (fun _ _ => rfl)))))) pss_nil))
      (pss_cons (ps_setLc (i := 5) rfl nd rfl rfl (sw_true rfl rfl rfl rfl) (pi_list (pe_fld (pv 0) rfl)) (own := [("place", 6)]) (blkOk_by (by show blkC ["self", "told", "before", "burns", "lost", "lit", "place", "times", "burnt"] (defScope st_Course_evening_with) _ _ = true; decide +kernel))
        (fun _ _ _ _ _ => pg_name (i := 6) nd rfl (Or.inl rfl)) (fun _ _ _ _ _ => pts_one (pt_val (pe_ix (ix_listK (K := K) rfl) (pv 3) (pv 6) (fun _ _ => rfl)))) (fun _ _ _ _ _ => pv 6))
      (pss_cons (ps_set (i := 7) nd rfl (Or.inr rfl) (pe_meth (pv 0) T.cl_Course T.me_Course_times (ok_times T) hr1 T.B_Course_times .nil pass0 (pa_cons (pv 3) (pa_cons (pe_op op_cat (pe_fld (pv 2) rfl) (pv 5)) pa_nil))))
      (pss_cons (ps_for PassesOwn.never rfl (pi_list (pe_fld (pv 2) rfl)) (pg_name (i := 6) nd rfl (Or.inl rfl)) (pss_one (ps_asg pe_bl (pg_sub (pv 3) (pv 6) set_list))))
      (pss_cons (ps_setLc (i := 8) rfl nd rfl rfl (sw_true rfl rfl rfl rfl) (pi_range1 (by rfl) T.b_range (pa_cons (pe_callB call_len_seq (by rfl) T.b_len PySem.boot_len (pa_cons (pv 3) pa_nil)) pa_nil)) (own := [("place", 6)]) (blkOk_by (by show blkC ["self", "told", "before", "burns", "lost", "lit", "place", "times", "burnt"] (defScope st_Course_evening_with) _ _ = true; decide +kernel))
        (fun _ _ _ _ _ => pg_name (i := 6) nd rfl (Or.inl rfl)) (fun _ _ _ _ _ => pts_one (pw_and (pt_val (pe_ix (ix_listK (K := K) rfl) (pv 3) (pv 6) (fun _ _ => rfl))) (pw_and1 (pt_cmpR op_le (pe_ix (ix_listK (K := K) rfl) (pv 7) (pv 6) (fun _ _ => rfl)) (pe_fldK (K := K) rfl (pv 0) rfl) (nomark _)))).pt) (fun _ _ _ _ _ => pv 6))
      (pss_one (ps_ret (pe_make T.mk_Evening (ok_Evening_init T) hr (by rfl) T.g_Evening T.B_Evening_init .nil pass0 (pa_cons (pv 3) (pa_cons (pv 8) (pa_cons (pe_op op_add (pv 4) (pe_meth (pv 0) T.cl_Course T.me_Course_worth_together (ok_worth_together T) hr1 T.B_Course_worth_together .nil pass0 (pa_cons (pv 8) pa_nil))) pa_nil)))))))))))), ?_⟩
    have n16 := g.n16
    have w1 := g.w1
    -- burns = list(before.burns)
    refine ⟨_, rfl, pe, _, dxe, _, _, rfl, h1, T.cl_Evening, T.n_Evening_burns, rfl, pb, _, rfl, .inl (SqL.of h2), fun l nl => ?_⟩
    -- lost = before.lost
    refine ⟨_, rfl, pe, _, dxe, _, _, rfl, same_upd nl _ _ h1, T.cl_Evening, T.n_Evening_lost, rfl, ?_⟩
    have mo' := mo.cut may
    -- the break
    refine ⟨fun σ' H' => σ' = [some (.ref p), some (.int (breakOut b : Int)), some (.ref pe), some (.ref l), some (.int ((m.cut b).lost : Int)), none, none, none, none] ∧ H' l = some (.lst (bv (brn (m.cut b).places))) ∧ Same H H', ?_, ?_⟩
    · cases b with
      | none =>
        refine ⟨_, rfl, rfl, _, rfl, iteB (fun c => ?_) (fun c => ?_)⟩
        · simp [breakOut] at c
        · exact ⟨rfl, upd_same, same_upd nl⟩
      | some i =>
        have hi : i < m.places.length := by
          have hb' : m.may i = true := by
            unfold MayB at may
            simpa using may
          exact (may_iff.mp hb').1
        have hiP : i < (s.places.map (·.worth)).length := by rw [List.length_map, ← mo.len]; exact hi
        have ei : ((breakOut (some i) : Nat) : Int) - 1 = (i : Int) := by show (((i + 1 : Nat) : Int)) - 1 = (i : Int); omega
        refine ⟨_, rfl, rfl, _, rfl, iteB (fun c => ?_) (fun c => ?_)⟩
        · refine ⟨_, rfl, _, rfl, _, rfl, l, _, _, i, rfl, rfl, upd_same, ?_, ?_⟩
          · rw [ei, bv_len, brn_len]
            exact ixN_nat hi
          · rw [upd_upd]
            have c1' := same_upd (o := .lst ((bv (brn m.places)).set i (.bl false))) nl _ _ c1
            have c2' := same_upd (o := .lst ((bv (brn m.places)).set i (.bl false))) nl _ _ c2
            refine ⟨_, rfl, _, rfl, p, _, dxc, _, _, rfl, c1', T.cl_Course, T.n_Course_worth, rfl, _, rfl, _, rfl, pwo, _, _, _, rfl, rfl, SqL.of c2', at_of (j := i) ei (nv_get hiP), _, _, rfl, rfl, ?_, ?_, same_upd nl⟩
            · have : ((m.cut (some i)).lost : Int) = (m.lost : Int) + (((s.places.map (·.worth)).getD i 0 : Nat) : Int) := by
                show ((m.lost + worth m.places i : Nat) : Int) = _
                rw [getD_worth, mo.wor i]
                omega
              rw [this]
              rfl
            · rw [upd_same, bv_set]
              show some (HO.lst (bv ((brn m.places).set i false))) = some (HO.lst (bv (brn (out m.places ([] ++ [i])))))
              rw [brn_out_snoc, brn_out_nil]
        · exfalso
          simp [breakOut] at c
          omega
    rintro σ1 H1 ⟨rfl, k1, k2⟩
    -- lit
    have hlen' : (m.cut b).places.length = s.places.length := mo'.len
    have bl : (brn (m.cut b).places).length = s.places.length := by rw [brn_len, hlen']
    have hstr : ∀ i ∈ d.strikes, i < s.places.length := g.str d hd
    have hstl : d.strikes.length ≤ 16 := g.strl d hd
    refine ⟨_, rfl, p, _, dxc, _, _, rfl, k2 _ _ c1, T.cl_Course, T.n_Course_where, rfl, pwh, rfl, ⟨_, SqL.of (k2 _ _ c4)⟩, fun pl npl => lc_pure (fun v => match v with | .int n => (brn (m.cut b).places).getD n.toNat false | _ => false) (fun v => v) npl (SqL.of (k2 _ _ c4)) (by rw [nv_len]; omega) (fun x hx H2 Q2 s2 q2 => ?_) (fun x hx _ H2 Q2 s2 q2 => ⟨_, rfl, q2⟩) ?_⟩
    · unfold nv at hx
      obtain ⟨n, hn, rfl⟩ := List.mem_map.mp hx
      exact ⟨_, rfl, _, rfl, l, _, _, _, rfl, rfl, SqL.of (s2 _ _ k1), at_of (j := n) rfl (bv_get (by rw [bl]; exact hstr n hn)), _, rfl, q2⟩
    have el : ((nv d.strikes).filter (fun v => match v with | .int n => (brn (m.cut b).places).getD n.toNat false | _ => false)).map (fun v => v) = nv (d.strikes.filter fun i => decide (0 < slow (m.cut b).places i)) := by
      rw [List.map_id']
      unfold nv
      rw [List.filter_map]
      congr 1
      refine List.filter_congr fun i _ => ?_
      exact brn_get _ _
    rw [el]
    generalize hlit : (d.strikes.filter fun i => decide (0 < slow (m.cut b).places i)) = lit
    have s2 := same_upd (o := .lst (nv lit)) npl
    have hl2 := s2 _ _ k1
    have k3 : Same H (upd H1 pl (.lst (nv lit))) := k2.trans s2
    have hpl : upd H1 pl (.lst (nv lit)) pl = some (.lst (nv lit)) := upd_same
    generalize upd H1 pl (.lst (nv lit)) = H2 at s2 hl2 k3 hpl ⊢
    have lil : lit.length ≤ 16 := by
      rw [← hlit]
      exact Nat.le_trans (List.length_filter_le _ _) hstl
    -- times
    refine ⟨_, rfl, p, dxc, _, rfl, k3 _ _ c1, rfl, _, rfl, _, rfl, pe, _, dxe, _, _, rfl, k3 _ _ h1, T.cl_Evening, T.n_Evening_fire, rfl, _, rfl, pf, pl, _, _, rfl, rfl, k3 _ _ h3, hpl, (by rw [nv_len, nv_len, sizeLine_eq]; have := mo.few; omega), fun pst npst => ?_⟩
    have ecat : nv m.burning ++ nv lit = nv (m.burning ++ lit) := by unfold nv; rw [List.map_append]
    rw [ecat]
    have s3 := same_upd (o := .lst (nv (m.burning ++ lit))) npst
    have k4 : Same H (upd H2 pst (.lst (nv (m.burning ++ lit)))) := k3.trans s3
    have fz : (forestM s.width (m.cut b) d).places.length = s.places.length := hlen'
    have stm : ∀ i ∈ m.burning ++ lit, i < s.places.length ∧ slow (m.cut b).places i ≠ 0 := fun i hi => by
      rcases List.mem_append.mp hi with q | q
      · exact mo'.fire i (by rw [cut_burning]; exact q)
      · rw [← hlit] at q
        obtain ⟨q1, q2⟩ := List.mem_filter.mp q
        exact ⟨hstr i q1, Nat.pos_iff_ne_zero.mp (of_decide_eq_true q2)⟩
    refine ⟨p, dxc, pwo, pws, pwh, l, pst, d.minutes, forestM s.width (m.cut b) d, brn (m.cut b).places, m.burning ++ lit, (List.range s.places.length).map (waysP s.width (s.places.map (·.slow)) d.wind), rfl, k4 _ _ c1, c3.mono k4, s3 _ _ hl2, upd_same, by rw [fz]; exact bl, by rw [fz, List.length_map, List.length_range], by rw [fz]; exact n16, g.mins d hd, ?_, fun i hi => by rw [fz]; exact (stm i hi).1, fun i hi => ?_, fun i hi => (stm i hi).2, fun i L hL => ?_, fun H3 pt ts s4 npt hpt I => ?_⟩
    · rw [List.length_append]
      have := mo.few
      omega
    · rw [← hlit]
      have := fires_contains (m := m.cut b) d i
      rw [cut_burning] at this
      exact this.symm
    · have hi : i < s.places.length := by
        have := (List.getElem?_eq_some_iff.mp hL).1
        rw [List.length_map, List.length_range] at this
        exact this
      rw [List.getElem?_map, List.getElem?_range hi] at hL
      have hL' : waysP s.width (s.places.map (·.slow)) d.wind i = L := Option.some.inj hL
      subst hL'
      have eb : (fun j => (brn (m.cut b).places).getD j false) = fun j => decide (0 < slow (forestM s.width (m.cut b) d).places j) := funext fun j => brn_get _ _
      rw [eb]
      refine ⟨steps_of (f := forestM s.width (m.cut b) d) (P := s.places) w1 g.w4 (by rw [fz]; exact g.full) fz mo'.same (by rw [fz]; exact hi), fun x hx => ?_⟩
      unfold waysP at hx
      obtain ⟨y, hy, rfl⟩ := List.mem_map.mp hx
      rw [List.length_map] at hy
      have e := nearP_near (f := forestM s.width (m.cut b) d) (p := i) w1 g.w4 (by rw [fz]; exact g.full) (by rw [fz]; exact hi)
      rw [fz] at e
      rw [show nearP s.width s.places.length i = (forestM s.width (m.cut b) d).near i from e] at hy
      exact near_lt (by rw [fz]; exact hi) hy
    have k5 : Same H H3 := k4.trans s4
    have hl3 := s4 _ _ (s3 _ _ hl2)
    have nptl : pt ≠ l := (ne_of_none (s3 _ _ hl2) npt).symm
    -- for place in before.fire
    refine ⟨_, rfl, pe, _, dxe, _, _, rfl, k5 _ _ h1, T.cl_Evening, T.n_Evening_fire, rfl, pf, rfl, ⟨_, SqL.of (k5 _ _ h3)⟩, for_list (xs := nv m.burning) (fun i σ H' => ∃ v6, σ = [some (.ref p), some (.int (breakOut b : Int)), some (.ref pe), some (.ref l), some (.int ((m.cut b).lost : Int)), some (.ref pl), v6, some (.ref pt), none] ∧
      H' l = some (.lst (bv (brn (out (m.cut b).places (m.burning.take i))))) ∧ H' pt = some (.lst (nv ts)) ∧ Same H H') ?_ ?_ ?_ ?_⟩
    · refine ⟨none, rfl, ?_, hpt, k5⟩
      rw [List.take_zero, brn_out_nil]
      exact hl3
    · rintro i σ H' _ ⟨v6, rfl, _, _, q⟩
      exact SqL.of (q _ _ h3)
    · rintro i x σ H4 hx ⟨v6, rfl, f1, f2, f3⟩
      obtain ⟨y, hy, rfl⟩ := nv_some hx
      have hyn : y < s.places.length := (mo.fire y (List.mem_of_getElem? hy)).1
      refine ⟨_, rfl, _, rfl, l, _, _, y, rfl, rfl, f1, ?_, _, rfl, ?_, ?_, ?_⟩
      · rw [bv_len, brn_len, out_len, hlen']
        exact ixN_nat hyn
      · rw [upd_same, bv_set, take_snoc hy, brn_out_snoc]
      · rw [upd_ne nptl]
        exact f2
      · intro b' o e
        rw [upd_ne (ne_of_none e nl)]
        exact f3 _ _ e
    · rintro σ H4 ⟨v6, rfl, f1, f2, f3⟩
      rw [nv_len, List.take_length] at f1
      have em : (((bv (brn (out (m.cut b).places m.burning))).length : Nat) : Int).toNat = s.places.length := by rw [bv_len, brn_len, out_len, hlen']; rfl
      have tl : ts.length = s.places.length := by rw [I.len]; exact fz
      -- burnt
      refine ⟨_, rfl, l, _, rfl, .inl (SqL.of f1), _, rfl, by omega, by rw [bv_len, brn_len, out_len, hlen']; omega, fun pbt npbt => ?_⟩
      rw [em]
      refine lc_rpure (fun i => (brn (out (m.cut b).places m.burning)).getD i false && decide (ts.getD i 0 ≤ d.minutes)) (fun i => .int (i : Int)) npbt (by omega) (fun i hi H5 Q5 s5 q5 => ?_) (fun i hi _ H5 Q5 s5 q5 => ?_) ?_
      · rw [Int.zero_add]
        refine ⟨_, rfl, _, rfl, l, _, _, _, rfl, rfl, SqL.of (s5 _ _ f1), at_of (j := i) rfl (bv_get (by rw [brn_len, out_len, hlen']; exact hi)), _, rfl, iteB (fun c => ?_) (fun c => ?_)⟩
        · rw [c, Bool.true_and] at q5
          refine ⟨_, rfl, _, rfl, pt, _, _, _, rfl, rfl, SqL.of (s5 _ _ f2), at_of (j := i) rfl (nv_get (by rw [tl]; exact hi)), _, rfl, p, _, dxc, _, _, rfl, s5 _ _ (f3 _ _ c1), T.cl_Course, T.n_Course_minutes, rfl, _, _, rfl, rfl, _, rfl, ?_⟩
          have e : decide (((ts.getD i 0 : Nat) : Int) ≤ ((d.minutes : Nat) : Int)) = decide (ts.getD i 0 ≤ d.minutes) := decide_eq_decide.mpr (by omega)
          rw [e]
          exact q5
        · rw [c, Bool.false_and] at q5
          exact q5
      · rw [Int.zero_add]
        exact ⟨_, rfl, q5⟩
      · have eB : ((List.range s.places.length).filter fun i => (brn (out (m.cut b).places m.burning)).getD i false && decide (ts.getD i 0 ≤ d.minutes)) = (m.cut b).burns s.width d := by
          have := burns_eq (m := m.cut b) (w := s.width) (d := d) w1 I
          rw [hlen', cut_burning] at this
          exact this
        have enf : List.map (fun (i : Nat) => V.int (i : Int)) ((m.cut b).burns s.width d) = nv ((m.cut b).burns s.width d) := rfl
        rw [eB, enf]
        have moN := mo'.next (w := s.width) (d := d) w1
        have s6 := same_upd (o := .lst (nv ((m.cut b).burns s.width d))) npbt
        have hb6 : upd H4 pbt (.lst (nv ((m.cut b).burns s.width d))) pbt = some (.lst (nv ((m.cut b).burns s.width d))) := upd_same
        have nlb : l ≠ pbt := ne_of_none f1 npbt
        have k6 : Same H (upd H4 pbt (.lst (nv ((m.cut b).burns s.width d)))) := f3.trans s6
        have hl6 := s6 _ _ f1
        have nbH : H pbt = none := f3.free npbt
        generalize (upd H4 pbt (.lst (nv ((m.cut b).burns s.width d)))) = H6 at s6 hb6 k6 hl6 ⊢
        refine ⟨_, rfl, _, rfl, _, rfl, _, rfl, p, dxc, _, rfl, k6 _ _ c1, rfl, _, rfl, p, dxc, pwo, pws, pwh, pbt, _, _, _, rfl, k6 _ _ c1, k6 _ _ c2, SqL.of hb6, fun i hi => ?_, ?_, fun H7 s7 => ⟨_, _, rfl, rfl, fun x dx nx ndx nex => ⟨x, dx, l, pbt, _, rfl, upd_same, rfl, ?_⟩⟩⟩
        · rw [List.length_map]
          exact (moN.fire i hi).1
        · have := moN.few
          exact Nat.le_trans this (by omega)
        · rw [upd_upd]
          have k7 := k6.trans s7
          refine k _ x (fun b' o e => ?_) ⟨dx, l, pbt, ?_, ?_, ?_⟩
          · rw [upd_ne (ne_of_none (k7 _ _ e) nx), upd_ne (ne_of_none (k7 _ _ e) ndx)]
            exact k7 _ _ e
          · rw [new_eq (k7.free nx), upd_same]
            have e : ((((m.cut b).next s.width d).lost : Nat) : Int) = ((m.cut b).lost : Int) + ((((m.cut b).burns s.width d).map fun i => (s.places.map (·.worth)).getD i 0).sum : Nat) := by
              show (((m.cut b).lost + Sw96.total (((m.cut b).burns s.width d).map (worth (m.cut b).places)) : Nat) : Int) = _
              rw [total_sum]
              have : ((m.cut b).burns s.width d).map (worth (m.cut b).places) = ((m.cut b).burns s.width d).map fun i => (s.places.map (·.worth)).getD i 0 := List.map_congr_left fun i _ => by rw [getD_worth]; exact mo'.wor i
              rw [this]
              omega
            rw [e]
          · rw [new_eq nl, upd_ne (ne_of_none (s7 _ _ hl6) nx), upd_ne (ne_of_none (s7 _ _ hl6) ndx), s7 _ _ hl6]
            show some (HO.lst (bv (brn (out (m.cut b).places m.burning)))) = some (HO.lst (bv (brn (out (m.cut b).places (m.cut b).burning))))
            rw [cut_burning]
          · rw [new_eq nbH, upd_ne (ne_of_none (s7 _ _ hb6) nx), upd_ne (ne_of_none (s7 _ _ hb6) ndx), s7 _ _ hb6]
            rfl
end
end Fs

set_option Elab.async false
set_option maxRecDepth 100000
set_option maxHeartbeats 2000000
namespace Fs
open PySem PySem.Spec PyProof.Rows L2
open PySem.W (Codec)
open Uw01 (Morning Day Season slow worth out breakOut follow)
theorem for_zip {K : PySem.W.Frag} {a b : Addr} {xs ys : List V} {g : TG} {tb : TS} {D : Ends} {σ : L2.St} {H : Hp} (Pv : Nat → L2.St → Hp → Prop) (h0 : Pv 0 σ H) (hl : ∀ i σ H, Pv i σ H → SqL K H a xs ∧ SqL K H b ys)
    (hs : ∀ i x y σ H T, xs[i]? = some x → ys[i]? = some y → Pv i σ H → H T = none → g (.ref T) σ (upd H T (.tup [x, y])) fun σ2 H2 => tb { D with nx := Pv (i + 1), ct := Pv (i + 1), bk := D.nx } σ2 H2) (hd : ∀ i σ H, xs.length ≤ i ∨ ys.length ≤ i → Pv i σ H → D.nx σ H) :
    ∃ W : Nat → Nat → L2.St → Hp → Prop, (∃ m, W 0 m σ H) ∧ ∀ i m σ H, W i m σ H → ((Itz K a b).stop i H ∧ D.nx σ H) ∨ ((Itz K a b).go i H ∧ ∃ N : L2.St → Hp → Prop, (∀ σ' H', N σ' H' → ∃ m', m' < m ∧ W (i + 1) m' σ' H') ∧
      ∀ x H', (Itz K a b).yld i H x H' → g x σ H' fun σ2 H2 => tb { D with nx := N, ct := N, bk := D.nx } σ2 H2) := by
  refine ⟨fun i m σ H => m = xs.length - i ∧ Pv i σ H, ⟨_, rfl, h0⟩, ?_⟩
  rintro i m σ H ⟨rfl, p⟩
  obtain ⟨q1, q2⟩ := hl i σ H p
  by_cases hx : i < xs.length
  · by_cases hy : i < ys.length
    · refine .inr ⟨⟨xs, ys, _, _, q1, q2, List.getElem?_eq_getElem hx, List.getElem?_eq_getElem hy⟩, Pv (i + 1), fun σ' H' z => ⟨_, by omega, rfl, z⟩, ?_⟩
      rintro v H' ⟨T, x, y, rfl, nT, rfl, e1, e2⟩
      exact hs i x y σ H T (e1 _ q1) (e2 _ q2) p nT
    · exact .inl ⟨⟨xs, ys, q1, q2, .inr (by omega)⟩, hd i σ H (.inr (by omega)) p⟩
  · exact .inl ⟨⟨xs, ys, q1, q2, .inl (by omega)⟩, hd i σ H (.inl (by omega)) p⟩
/-- φ holds of a part that is new since H, without D -/
def Own (D : Addr) (H H' : Hp) (φ : Hp → Prop) : Prop := ∃ G : Hp, G D = none ∧ (∀ b o, H b = some o → G b = none) ∧ Same G H' ∧ φ G
theorem Own.upd {D : Addr} {H H' : Hp} {φ : Hp → Prop} {o : HO} (h : Own D H H' φ) : Own D H (upd H' D o) φ := by
  obtain ⟨G, h1, h2, h3, h4⟩ := h
  refine ⟨G, h1, h2, fun b u e => ?_, h4⟩
  rw [upd_ne (ne_of_none e h1)]
  exact h3 _ _ e
theorem Own.same {D : Addr} {H H' H'' : Hp} {φ : Hp → Prop} (h : Own D H H' φ) (s : Same H' H'') : Own D H H'' φ := by
  obtain ⟨G, h1, h2, h3, h4⟩ := h
  exact ⟨G, h1, h2, h3.trans s, h4⟩
theorem Own.new {D : Addr} {H H' H'' : Hp} {φ : Hp → Prop} {o : HO} (hD : H' D = some o) (s : Same H H') (h : φ (New H' H'')) : Own D H H'' φ := ⟨_, new_old hD, fun b u e => new_old (s _ _ e), new_sub, h⟩
theorem Own.fin {D : Addr} {H H' : Hp} {φ : Hp → Prop} (m : ∀ G G', φ G → Same G G' → φ G') (h : Own D H H' φ) : φ (New H H') := by
  obtain ⟨G, _, h2, h3, h4⟩ := h
  refine m _ _ h4 fun b o e => ?_
  have : H b = none := by
    cases q : H b with
    | none => rfl
    | some u => rw [h2 b u q] at e; cases e
  rw [new_eq this]
  exact h3 _ _ e
def CosAt (C : Addr) (G : Hp) (pc : Addr) (s : Season) : Prop := ∃ cs : List Addr, G pc = some (.lst (cs.map V.ref)) ∧ cs.length = s.days.length ∧ ∀ (i : Nat) (q : Addr) (d : Day), cs[i]? = some q → s.days[i]? = some d → CoS C G q s d
theorem CosAt.mono {C : Addr} {G G' : Hp} {pc : Addr} {s : Season} (h : CosAt C G pc s) (e : Same G G') : CosAt C G' pc s := by
  obtain ⟨cs, h1, h2, h3⟩ := h
  exact ⟨cs, e _ _ h1, h2, fun i q d u v => (h3 i q d u v).mono e⟩
def EvsAt (C : Addr) (G : Hp) (es : List Addr) (l : List Morning) : Prop := es.length = l.length ∧ ∀ (i : Nat) (r : Addr) (x : Morning), es[i]? = some r → l[i]? = some x → EvAt C G r x
/-- between two turns of follow_breaks' loop -/
def FInv (a : Ads) (s : Season) (bs : List (Option Nat)) (m : Morning) (pc pe pk pv' : Addr) (H : Hp) (i : Nat) (σ : L2.St) (H' : Hp) : Prop :=
  ∃ (v4 v5 v6 : Option V) (es : List Addr) (l : List Morning) (pre : List Addr) (rb : Addr) (mc : Morning), σ = [some (.ref pc), some (.ref pe), some (.ref pk), some (.ref pv'), v4, v5, v6] ∧
    H' pv' = some (.lst ((pe :: es).map V.ref)) ∧ Same H H' ∧ es.length = l.length ∧ l.length = i ∧ i ≤ s.days.length ∧ (∀ (j : Nat) (r : Addr) (x : Morning), es[j]? = some r → l[j]? = some x → Own pv' H H' (fun G => EvAt a.c_Evening G r x)) ∧
    pe :: es = pre ++ [rb] ∧ EvAt a.c_Evening H' rb mc ∧ MOk s.places mc ∧ follow s.width m s.days bs = (follow s.width mc (s.days.drop i) (bs.drop i)).map fun t => l ++ t
section
variable {P : Program} {w : World} {K : PySem.W.Frag} {mg : Str → Option Value} {base : Heap} {a : Ads}
def sp_follow_breaks (a : Ads) : Sp := fun vs H Q E => ∃ (pc pe pk : Addr) (s : Season) (bs : List (Option Nat)) (m : Morning), vs = [.ref pc, .ref pe, .ref pk] ∧ CosAt a.c_Course H pc s ∧ EvAt a.c_Evening H pe m ∧ H pk = some (.lst (nv (bs.map breakOut))) ∧ bs.length = s.days.length ∧
  (∀ b ∈ bs, ∀ i, b = some i → i < s.places.length) ∧ Good s ∧ MOk s.places m ∧
  (∀ l, follow s.width m s.days bs = some l → ∀ H' q (es : List Addr), Same H H' → H' q = some (.lst ((pe :: es).map V.ref)) → EvsAt a.c_Evening H' es l → Q (.ref q) H') ∧
  (follow s.width m s.days bs = none → ∀ H', Same H H' → E (.ref a.c_MayNotBeCut) none H')
theorem ok_follow_breaks (T : Txt K mg a) : FnOk P w K mg base (CXe a.c_MayNotBeCut P w) 4 a.f_follow_breaks a.d_follow_breaks ["courses", "ahead", "breaks"] (sp_follow_breaks a) := by
  refine Fun.okX T.F_follow_breaks sc_follow_breaks (fun vs H Q E h => ?_) (fun cdv A outer s0 H vs Q E hr h => ?_)
  · obtain ⟨pc, pe, pk, s, bs, m, rfl, _⟩ := h
    rfl
  · obtain ⟨pc, pe, pk, s, bs, m, rfl, ⟨cs, hc1, hc2, hc3⟩, hE, hk, hbl, hbn, g, mo, k, kE⟩ := h
    obtain ⟨t0, g0⟩ := T.k_NO_BREAK
    have nd := sc_follow_breaks.nd
    have hr1 := hr.mono (j := 1) (by decide)
    refine ⟨_, pss_cons (ps_set (i := 3) nd rfl (Or.inl rfl) (pe_lst (pa_cons (pv 1) pa_nil)))
      (pss_cons (ps_for PassesOwn.leaving rfl (pi_zip (by rfl) T.b_zip (pa_cons (pv 0) (pa_cons (pv 2) pa_nil))) (pg_tup rfl (pgs_cons (pg_name (i := 4) nd rfl (Or.inl rfl)) (pgs_cons (pg_name (i := 5) nd rfl (Or.inl rfl)) pgs_nil)))
        (pss_cons (ps_set (i := 6) nd rfl (Or.inl rfl) (pe_ix ix_list (pv 3) (pe_un un_neg pe_int) (fun _ _ => rfl)))
        (pss_cons (ps_if (pw_and (pt_cmpR op_ne (pv 5) (pe_glob (v := .int 0) (by rfl) g0 ⟨_, rfl⟩) (nomark _)) (pw_and1 (pt_not (pt_val (pe_meth (pv 6) T.cl_Evening T.me_Evening_may_be_cut (ok_may T) hr1 T.B_Evening_may_be_cut .nil pass0 (pa_cons (pe_call (ok_place_of T) hr1 (by rfl) T.g_place_of T.F_place_of.kp T.B_place_of .nil pass0 (pa_cons (pv 5) pa_nil)) pa_nil)))))).pt
          (pss_one (ps_raise (pa_cons (pe_fstr (pv 5) (by decide +kernel) (by decide +kernel)) pa_nil) (by rfl) T.g_MayNotBeCut T.e_MayNotBeCut)) pss_nil)
        (pss_one (ps_expr (pe_bm PySem.F.plainAttrs_list PySem.F.slot_list_append PySem.F.type_list_append mt_append (pv 3) (pa_cons (pe_meth (pv 4) T.cl_Course T.me_Course_evening_with (ok_evening_with T) hr T.B_Course_evening_with .nil pass0 (pa_cons (pv 5) (pa_cons (pv 6) pa_nil))) pa_nil)))))))
      (pss_one (ps_ret (pv 3)))), ?_⟩
    refine ⟨_, rfl, (by show 1 ≤ sizeLine; decide), fun pv' npv => ?_⟩
    have s1 := same_upd (o := .lst [V.ref pe]) npv
    refine ⟨_, rfl, _, rfl, pc, pk, _, _, rfl, SqL.of (s1 _ _ hc1), SqL.of (s1 _ _ hk), for_zip (xs := cs.map V.ref) (ys := nv (bs.map breakOut)) (FInv a s bs m pc pe pk pv' H) ?_ ?_ ?_ ?_⟩
    · refine ⟨none, none, none, [], [], [], pe, m, rfl, upd_same, s1, rfl, rfl, Nat.zero_le _, fun j r x e => (by simp at e), rfl, hE.mono s1, mo, ?_⟩
      show _ = (follow s.width m s.days bs).map fun t => t
      rw [Option.map_id']
    · rintro i σ H' ⟨v4, v5, v6, es, l, pre, rb, mc, rfl, f1, f2, _⟩
      exact ⟨SqL.of (f2 _ _ hc1), SqL.of (f2 _ _ hk)⟩
    · rintro i x y σ H1 TT hx hy ⟨v4, v5, v6, es, l, pre, rb, mc, rfl, f1, f2, f3, f4, f5, f6, f7, f8, f9, f10⟩ nT
      obtain ⟨bo, hbo, rfl⟩ := nv_some hy
      rw [List.getElem?_map] at hx hbo
      obtain ⟨q, hq, rfl⟩ : ∃ q, cs[i]? = some q ∧ x = .ref q := by
        cases e : cs[i]? with
        | none => rw [e] at hx; cases hx
        | some q => rw [e] at hx; exact ⟨q, rfl, (Option.some.inj hx).symm⟩
      obtain ⟨b, hb, rfl⟩ : ∃ b, bs[i]? = some b ∧ breakOut b = bo := by
        cases e : bs[i]? with
        | none => rw [e] at hbo; cases hbo
        | some b => rw [e] at hbo; exact ⟨b, rfl, Option.some.inj hbo⟩
      have hi : i < s.days.length := by rw [← hc2]; exact (List.getElem?_eq_some_iff.mp hq).1
      have hd : s.days[i]? = some s.days[i] := List.getElem?_eq_getElem hi
      generalize hdv : s.days[i] = d at hd
      have hdm : d ∈ s.days := List.mem_of_getElem? hd
      have hco := hc3 i q d hq hd
      have dd : s.days.drop i = d :: s.days.drop (i + 1) := by rw [List.drop_eq_getElem_cons hi, hdv]
      have hib : i < bs.length := by rw [hbl]; exact hi
      have db : bs.drop i = b :: bs.drop (i + 1) := by rw [List.drop_eq_getElem_cons hib, (List.getElem?_eq_some_iff.mp hb).2]
      have bn : ∀ j, b = some j → j < s.places.length := hbn b (List.mem_of_getElem? hb)
      have sT := same_upd (o := .tup [V.ref q, V.int ((breakOut b : Nat) : Int)]) nT
      have k2 : Same H (upd H1 TT (.tup [V.ref q, V.int ((breakOut b : Nat) : Int)])) := f2.trans sT
      refine ⟨TT, _, rfl, SqT.of upd_same, rfl, _, _, rfl, _, _, rfl, rfl, ?_⟩
      have f1' := sT _ _ f1
      have f9' := f8.mono sT
      have f6' : ∀ (j : Nat) (r : Addr) (x : Morning), es[j]? = some r → l[j]? = some x → Own pv' H (upd H1 TT (.tup [V.ref q, V.int ((breakOut b : Nat) : Int)])) (fun G => EvAt a.c_Evening G r x) := fun j r x e1 e2 => (f6 j r x e1 e2).same sT
      generalize (upd H1 TT (.tup [V.ref q, V.int ((breakOut b : Nat) : Int)])) = H2 at k2 f1' f9' f6' ⊢
      have elast : (pe :: es).map V.ref = pre.map V.ref ++ [V.ref rb] := by rw [f7, List.map_append]; rfl
      -- before = evenings[-1]
      refine ⟨_, rfl, _, rfl, pv', _, _, _, rfl, rfl, SqL.of f1', by rw [elast]; exact atI_last _ _, ?_⟩
      obtain ⟨dxe, pb, pf, o1, o2, o3⟩ := id f9'
      have go : MayB mc b → follow s.width m s.days bs = (follow s.width ((mc.cut b).next s.width d) (s.days.drop (i + 1)) (bs.drop (i + 1))).map fun t => (l ++ [(mc.cut b).next s.width d]) ++ t := fun hm => by
        rw [f10, dd, db]
        show (if (b.any fun i => !mc.may i) = true then none else (follow s.width ((mc.cut b).next s.width d) (s.days.drop (i + 1)) (bs.drop (i + 1))).map fun l => (mc.cut b).next s.width d :: l).map _ = _
        unfold MayB at hm
        rw [hm, if_neg (by decide), Option.map_map]
        congr 1
        funext t
        simp
      obtain ⟨dxc, pwo, pws, pwh, q1, _⟩ := id hco
      have rest : MayB mc b → tDrop (tBM K "list" rAppend (tVar 3) (tCons (tMeth a.c_Course "evening_with" (sp_evening_with a) [] E0 (tVar 4) (tCons (tVar 5) (tCons (tVar 6) tNil))) tNil)) { nx := FInv a s bs m pc pe pk pv' H (i + 1), rt := Q } [some (.ref pc), some (.ref pe), some (.ref pk), some (.ref pv'), some (.ref q), some (.int ((breakOut b : Nat) : Int)), some (.ref rb)] H2 := fun hm => by
        refine ⟨_, rfl, .inl ⟨rfl, _, SqL.of f1'⟩, _, rfl, q, dxc, _, rfl, k2 _ _ q1, rfl, _, rfl, _, rfl, q, rb, s, d, mc, b, rfl, hco.mono k2, f9', g, hdm, f9, hm, fun H5 r s5 hE5 => ?_⟩
        have hd3 := g.few
        refine ⟨pv', _, _, rfl, rfl, s5 _ _ f1', by rw [List.length_map, List.length_cons, f3, f4]; exact small1000 (by omega), _, _, _, es ++ [r], l ++ [(mc.cut b).next s.width d], pe :: es, r, _, rfl, ?_, ?_, ?_, ?_, by omega, ?_, rfl, ?_, (f9.cut hm).next g.w1, go hm⟩
        · rw [upd_same]
          show some (HO.lst _) = some (HO.lst ((pe :: (es ++ [r])).map V.ref))
          simp
        · intro b' o e
          rw [upd_ne (ne_of_none e npv)]
          exact s5 _ _ (k2 _ _ e)
        · rw [List.length_append, List.length_append, f3]
          rfl
        · rw [List.length_append, f4]
          rfl
        · intro j r' x' e1 e2
          by_cases hj : j < es.length
          · rw [List.getElem?_append_left hj] at e1
            rw [List.getElem?_append_left (by rw [← f3]; exact hj)] at e2
            exact ((f6' j r' x' e1 e2).same s5).upd
          · have hj' : j = es.length := by
              have := (List.getElem?_eq_some_iff.mp e1).1
              rw [List.length_append] at this
              simp at this
              omega
            subst hj'
            rw [List.getElem?_append_right (Nat.le_refl _)] at e1
            rw [f3, List.getElem?_append_right (Nat.le_refl _)] at e2
            simp at e1 e2
            subst e1
            subst e2
            exact (Own.new f1' k2 hE5).upd
        · refine hE5.mono fun b' o e => ?_
          obtain ⟨e1, e2⟩ := new_some e
          rw [upd_ne (fun z => by rw [z, f1'] at e1; cases e1)]
          exact e2
      refine ⟨_, rfl, rfl, _, rfl, iteB (fun c => ?_) (fun c => ?_)⟩
      · cases b with
        | none => simp [breakOut] at c
        | some j =>
          have hj : j < mc.places.length := by rw [f9.len]; exact bn j rfl
          have ej : ((breakOut (some j) : Nat) : Int) - 1 = (j : Int) := by show (((j + 1 : Nat) : Int)) - 1 = (j : Int); omega
          refine ⟨_, rfl, rb, dxe, _, rfl, o1, rfl, _, rfl, _, rfl, rb, j, mc, by rw [ej]; rfl, f9', hj, _, rfl, ?_⟩
          cases hmay : mc.may j with
          | true => exact iteF (rest (by unfold MayB; simp [hmay]))
          | false =>
            refine iteT ⟨_, rfl, _, rfl, ?_, fun o => ⟨(by show 1 ≤ sizeLine; decide), kE ?_ _ k2⟩⟩
            · have := g.n16
              have := bn j rfl
              show (((j + 1 : Nat) : Int)).natAbs < 2 ^ 64
              omega
            · rw [f10, dd, db]
              show (if ((some j : Option Nat).any fun i => !mc.may i) = true then none else _).map _ = _
              rw [if_pos (by simp [hmay])]
              rfl
      · cases b with
        | none => exact iteF (rest rfl)
        | some j =>
          exfalso
          simp [breakOut] at c
          omega
    · rintro i σ H1 hi ⟨v4, v5, v6, es, l, pre, rb, mc, rfl, f1, f2, f3, f4, f5, f6, f7, f8, f9, f10⟩
      have hi' : i = s.days.length := by
        rw [List.length_map, hc2, nv_len, List.length_map, hbl] at hi
        omega
      have e1 : s.days.drop i = [] := List.drop_eq_nil_of_le (by omega)
      have e2 : bs.drop i = [] := List.drop_eq_nil_of_le (by omega)
      rw [e1, e2] at f10
      have f10' : follow s.width m s.days bs = some l := by
        rw [f10]
        show some (l ++ []) = some l
        rw [List.append_nil]
      exact ⟨_, rfl, k l f10' H1 pv' es f2 f1 ⟨f3, fun j r x u v => ((f6 j r x u v).fin (fun _ _ h s => h.mono s)).mono new_sub⟩⟩
end
end Fs

set_option Elab.async false
set_option maxRecDepth 100000
set_option maxHeartbeats 2000000
namespace Fs
open PySem PySem.Spec PyProof.Rows L2
open PySem.W (Codec)
open Uw01 (Morning Day Season slow worth out breakOut follow)
/-- a row of breaks stands at q -/
def RowAt (a : Ads) (G : Hp) (q : Addr) (r : MRow) : Prop := ∃ dx pb pl, G q = some (.ins a.c_Row dx (fRow pb pl)) ∧ G pb = some (.lst (nv (r.1.map breakOut))) ∧ EvAt a.c_Evening G pl r.2
theorem RowAt.mono {a : Ads} {G G' : Hp} {q : Addr} {r : MRow} (h : RowAt a G q r) (s : Same G G') : RowAt a G' q r := by
  obtain ⟨dx, pb, pl, h1, h2, h3⟩ := h
  exact ⟨dx, pb, pl, s _ _ h1, s _ _ h2, h3.mono s⟩
def RowsAt (a : Ads) (G : Hp) (q : Addr) (R : List MRow) : Prop := ∃ ys : List V, G q = some (.lst ys) ∧ ys.length = R.length ∧ ∀ (k : Nat) (y : V), ys[k]? = some y → ∃ (q' : Addr) (r : MRow), R[k]? = some r ∧ y = .ref q' ∧ RowAt a G q' r
theorem RowsAt.mono {a : Ads} {G G' : Hp} {q : Addr} {R : List MRow} (h : RowsAt a G q R) (s : Same G G') : RowsAt a G' q R := by
  obtain ⟨ys, h1, h2, h3⟩ := h
  refine ⟨ys, s _ _ h1, h2, fun k y e => ?_⟩
  obtain ⟨q', r, g1, g2, g3⟩ := h3 k y e
  exact ⟨q', r, g1, g2, g3.mono s⟩
theorem choices_out (m : Morning) : (choices m).map breakOut = 0 :: (couldL m).map (fun i => i + 1) := by
  unfold choices couldL
  rw [List.map_cons, List.map_map]
  rfl
section
variable {P : Program} {w : World} {K : PySem.W.Frag} {mg : Str → Option Value} {base : Heap} {a : Ads}
def sp_Row_init (C : Addr) : Sp := fun vs H Q _ => ∃ (p dx pb pl : Addr), vs = [.ref p, .ref pb, .ref pl] ∧ H p = some (.ins C dx []) ∧ Q .non (upd H p (.ins C dx (fRow pb pl)))
theorem ok_Row_init (T : Txt K mg a) : FnOk P w K mg base CX0 1 a.f_Row_init a.d_Row_init ["self", "breaks", "last"] (sp_Row_init a.c_Row) := by
  refine T.F_Row_init.ok sc_Row_init (fun vs H Q E h => ?_) (fun cdv A outer s H vs Q E hr h => ?_)
  · obtain ⟨p, dx, pb, pl, rfl, _⟩ := h
    rfl
  · obtain ⟨p, dx, pb, pl, rfl, hp, k⟩ := h
    refine ⟨_, pss_cons (ps_fld (pv 0) (pv 1) rfl) (pss_one (ps_fld (pv 0) (pv 2) rfl)), ?_⟩
    refine ⟨_, rfl, _, rfl, p, _, dx, _, rfl, hp, T.cl_Row, T.n_Row_breaks, (by show 0 < 1000; decide), ?_⟩
    refine ⟨_, rfl, _, rfl, p, _, dx, _, rfl, upd_same, T.cl_Row, T.n_Row_last, (by show 1 < 1000; decide), ?_⟩
    rw [upd_upd]
    exact k
def sp_longer_by (a : Ads) : Sp := fun vs H Q _ => ∃ (q pc : Addr) (s : Season) (d : Day) (r : MRow), vs = [.ref q, .ref pc] ∧ RowAt a H q r ∧ CoS a.c_Course H pc s d ∧ Good s ∧ d ∈ s.days ∧ MOk s.places r.2 ∧ r.1.length ≤ 1000 ∧
  ∀ H' D, Same H H' → RowsAt a (New H H') D (longer s.width d r) → Q (.ref D) H'
theorem ok_longer_by (T : Txt K mg a) : FnOk P w K mg base CX0 4 a.f_Row_longer_by a.d_Row_longer_by ["self", "course"] (sp_longer_by a) := by
  refine T.F_Row_longer_by.ok sc_Row_longer_by (fun vs H Q E h => ?_) (fun cdv A outer s0 H vs Q E hr h => ?_)
  · obtain ⟨q, pc, s, d, r, rfl, _⟩ := h
    rfl
  · obtain ⟨q, pc, s, d, r, rfl, ⟨dxr, pb, pl, h1, h2, h3⟩, hco, g, hd, mo, hrl, k⟩ := h
    obtain ⟨t0, g0⟩ := T.k_NO_BREAK
    have nd := sc_Row_longer_by.nd
    have hr1 := hr.mono (j := 1) (by decide)
    have hr2 := hr.mono (j := 2) (by decide)
    refine ⟨_, pss_cons (ps_set (i := 2) nd rfl (Or.inl rfl) (pe_op op_cat (pe_lst (pa_cons (pe_glob (v := .int 0) (by rfl) g0 ⟨_, rfl⟩) pa_nil))
        (pe_lc rfl nd (pi_list (pe_meth0 (pe_fld (pv 0) rfl) T.cl_Evening T.me_Evening_could_burn (ok_could T) hr2 T.B_Evening_could_burn .nil pass0)) (own := [("place", 3)]) (blkOk_by (by show blkC ["self", "course", "choices", "place", "told"] (defScope st_Row_longer_by) _ _ = true; decide +kernel))
          (fun _ _ _ _ _ => pg_name (i := 3) nd rfl (Or.inl rfl)) (fun _ _ _ _ _ => pts_nil) (fun _ _ _ _ _ => pe_call (ok_break_at T) hr1 (by rfl) T.g_break_at T.F_break_at.kp T.B_break_at .nil pass0 (pa_cons (pv 3) pa_nil)))))
      (pss_one (ps_ret (pe_lc rfl nd (pi_list (pv 2)) (own := [("told", 4)]) (blkOk_by (by show blkC ["self", "course", "choices", "place", "told"] (defScope st_Row_longer_by) _ _ = true; decide +kernel))
        (fun _ _ _ _ _ => pg_name (i := 4) nd rfl (Or.inl rfl)) (fun _ _ _ _ _ => pts_nil)
        (fun _ _ _ _ _ => pe_make T.mk_Row (ok_Row_init T) hr2 (by rfl) T.g_Row T.B_Row_init .nil pass0 (pa_cons (pe_op op_cat (pe_fldK (K := K) rfl (pv 0) rfl) (pe_lst (pa_cons (pv 4) pa_nil)))
          (pa_cons (pe_meth (pv 1) T.cl_Course T.me_Course_evening_with (ok_evening_with T) hr T.B_Course_evening_with .nil pass0 (pa_cons (pv 4) (pa_cons (pe_fldK (K := K) rfl (pv 0) rfl) pa_nil))) pa_nil)))))), ?_⟩
    have n16 := g.n16
    have ml : r.2.places.length ≤ 16 := by rw [mo.len]; exact n16
    have cl : (couldL r.2).length ≤ 16 := by
      unfold couldL
      refine Nat.le_trans (List.length_filter_le _ _) ?_
      rw [List.length_range]
      exact ml
    obtain ⟨dxe, pbe, pfe, e1, e2, e3⟩ := id h3
    -- choices
    refine ⟨(by show 1 ≤ sizeLine; decide), fun l1 n1 => ?_⟩
    have s1 := same_upd (o := .lst [V.int 0]) n1
    refine ⟨_, rfl, q, _, dxr, _, _, rfl, s1 _ _ h1, T.cl_Row, T.n_Row_last, rfl, pl, dxe, _, rfl, s1 _ _ e1, rfl, pl, r.2, rfl, h3.mono s1, ml, fun l2 n2 => ?_⟩
    have s2 := same_upd (o := .lst (nv (couldL r.2))) n2
    refine ⟨l2, rfl, ⟨_, SqL.of upd_same⟩, fun D nD => lc_map (fun v => match v with | .int n => .int (n + 1) | _ => .non) nD (SqL.of upd_same) (by rw [nv_len]; omega) (fun x hx H1 Q1 s1 q1 => ?_) ?_⟩
    · unfold nv at hx
      obtain ⟨n, hn, rfl⟩ := List.mem_map.mp hx
      exact ⟨_, rfl, _, rfl, q1⟩
    have ec : (nv (couldL r.2)).map (fun v => match v with | .int n => V.int (n + 1) | _ => .non) = nv ((couldL r.2).map fun i => i + 1) := by
      unfold nv
      rw [List.map_map, List.map_map]
      rfl
    rw [ec]
    have s3 := same_upd (o := .lst (nv ((couldL r.2).map fun i => i + 1))) nD
    refine ⟨l1, D, _, _, rfl, rfl, s3 _ _ (s2 _ _ upd_same), upd_same, (by rw [nv_len, List.length_map, sizeLine_eq]; show 1 + _ ≤ _; omega), fun l4 n4 => ?_⟩
    have ecat : [V.int 0] ++ nv ((couldL r.2).map fun i => i + 1) = nv ((choices r.2).map breakOut) := by rw [choices_out]; rfl
    rw [ecat]
    have s4 := same_upd (o := .lst (nv ((choices r.2).map breakOut))) n4
    have k4 := ((s1.trans s2).trans s3).trans s4
    have hl4 : upd (upd (upd (upd H l1 (.lst [V.int 0])) l2 (.lst (nv (couldL r.2)))) D (.lst (nv ((couldL r.2).map fun i => i + 1)))) l4 (.lst (nv ((choices r.2).map breakOut))) l4 = some (.lst (nv ((choices r.2).map breakOut))) := upd_same
    generalize upd (upd (upd (upd H l1 (.lst [V.int 0])) l2 (.lst (nv (couldL r.2)))) D (.lst (nv ((couldL r.2).map fun i => i + 1)))) l4 (.lst (nv ((choices r.2).map breakOut))) = H4 at k4 hl4 ⊢
    have chl : (choices r.2).length ≤ 17 := Nat.le_trans (choices_len _) (by omega)
    refine ⟨_, rfl, l4, rfl, ⟨_, SqL.of hl4⟩, fun D5 nD5 => lc_build (fun i y G => ∃ q' r', (longer s.width d r)[i]? = some r' ∧ y = .ref q' ∧ RowAt a G q' r') (fun i y G G' h s => ?_) nD5 (SqL.of hl4) (by rw [nv_len, List.length_map]; omega) (fun i x hx H5 Q5 s5 k5 => ?_) (fun ys H6 s6 f1 f2 f3 => ?_)⟩
    · obtain ⟨q', r', g1, g2, g3⟩ := h
      exact ⟨q', r', g1, g2, g3.mono s⟩
    · obtain ⟨bo, hbo, rfl⟩ := nv_some hx
      rw [List.getElem?_map] at hbo
      obtain ⟨b, hb, rfl⟩ : ∃ b, (choices r.2)[i]? = some b ∧ breakOut b = bo := by
        cases e : (choices r.2)[i]? with
        | none => rw [e] at hbo; cases hbo
        | some b => rw [e] at hbo; exact ⟨b, rfl, Option.some.inj hbo⟩
      have may := choices_may (List.mem_of_getElem? hb)
      have k5' := k4.trans s5
      obtain ⟨dxc, pwo, pws, pwh, q1, _⟩ := id hco
      refine ⟨rfl, _, rfl, q, _, dxr, _, _, rfl, k5' _ _ h1, T.cl_Row, T.n_Row_breaks, rfl, _, rfl, (by show 1 ≤ sizeLine; decide), fun m1 nm1 => ?_⟩
      have t1 := same_upd (o := .lst [V.int ((breakOut b : Nat) : Int)]) nm1
      refine ⟨pb, m1, _, _, rfl, rfl, t1 _ _ (k5' _ _ h2), upd_same, (by rw [nv_len, List.length_map, sizeLine_eq]; show _ + 1 ≤ _; omega), fun m2 nm2 => ?_⟩
      have ecat2 : nv (r.1.map breakOut) ++ [V.int ((breakOut b : Nat) : Int)] = nv ((r.1 ++ [b]).map breakOut) := by unfold nv; rw [List.map_append, List.map_append]; rfl
      rw [ecat2]
      have t2 := same_upd (o := .lst (nv ((r.1 ++ [b]).map breakOut))) nm2
      have k6 := (k5'.trans t1).trans t2
      have hm2 : upd (upd H5 m1 (.lst [V.int ((breakOut b : Nat) : Int)])) m2 (.lst (nv ((r.1 ++ [b]).map breakOut))) m2 = some (.lst (nv ((r.1 ++ [b]).map breakOut))) := upd_same
      have s56 : Same H5 (upd (upd H5 m1 (.lst [V.int ((breakOut b : Nat) : Int)])) m2 (.lst (nv ((r.1 ++ [b]).map breakOut)))) := t1.trans t2
      have nm2' : H5 m2 = none := t1.free nm2
      generalize upd (upd H5 m1 (.lst [V.int ((breakOut b : Nat) : Int)])) m2 (.lst (nv ((r.1 ++ [b]).map breakOut))) = H6 at k6 hm2 s56 ⊢
      refine ⟨_, rfl, pc, dxc, _, rfl, k6 _ _ q1, rfl, _, rfl, _, rfl, q, _, dxr, _, _, rfl, k6 _ _ h1, T.cl_Row, T.n_Row_last, rfl, pc, pl, s, d, r.2, b, rfl, hco.mono k6, h3.mono k6, g, hd, mo, may, fun H7 e7 s7 hE7 => ?_⟩
      intro x dx nx ndx nex
      refine ⟨x, dx, m2, e7, rfl, upd_same, rfl, ?_⟩
      rw [upd_upd]
      have s57 := s56.trans s7
      have sm : Same H7 (upd (upd H7 dx (.own x)) x (.ins a.c_Row dx (fRow m2 e7))) := fun b' o e => by
        rw [upd_ne (ne_of_none e nx), upd_ne (ne_of_none e ndx)]
        exact e
      refine k5 _ _ (s57.trans sm) ⟨x, (r.1 ++ [b], (r.2.cut b).next s.width d), ?_, rfl, dx, m2, e7, ?_, ?_, ?_⟩
      · unfold longer
        rw [List.getElem?_map, hb]
        rfl
      · rw [new_eq (s57.free nx), upd_same]
      · rw [new_eq nm2']
        exact sm _ _ (s7 _ _ hm2)
      · refine hE7.mono fun b' o e => ?_
        obtain ⟨u1, u2⟩ := new_some e
        rw [new_eq (s56.free u1)]
        exact sm _ _ u2
    · refine k H6 D5 (k4.trans s6) ⟨ys, by rw [new_eq (k4.free nD5)]; exact f2, ?_, fun i y hy => ?_⟩
      · rw [f1, nv_len, List.length_map]
        unfold longer
        rw [List.length_map]
      · obtain ⟨q', r', g1, g2, g3⟩ := f3 i y hy
        exact ⟨q', r', g1, g2, g3.mono (new_mono k4)⟩
end
end Fs

set_option Elab.async false
set_option maxRecDepth 100000
set_option maxHeartbeats 2000000
namespace Fs
open PySem PySem.Spec PyProof.Rows L2
open PySem.W (Codec)
open Uw01 (Morning Day Season slow worth out breakOut follow)
theorem longer_ok {P : List Sw96.Place} {w : Nat} {d : Day} {r : MRow} (hw : 0 < w) (h : MOk P r.2) : ∀ r' ∈ longer w d r, MOk P r'.2 ∧ r'.1.length = r.1.length + 1 := fun r' hr' => by
  unfold longer at hr'
  obtain ⟨b, hb, rfl⟩ := List.mem_map.mp hr'
  exact ⟨(h.cut (choices_may hb)).next hw, by rw [List.length_append]; rfl⟩
theorem rows_ok {P : List Sw96.Place} {w : Nat} (hw : 0 < w) : ∀ (ds : List Day) (R : List MRow) (c : Nat), (∀ r ∈ R, MOk P r.2 ∧ r.1.length = c) → ∀ r ∈ rowsM w R ds, MOk P r.2 ∧ r.1.length = c + ds.length
  | [], R, c, h => h
  | d :: ds, R, c, h => fun r hr => by
    have := rows_ok hw ds (R.flatMap (longer w d)) (c + 1) (fun r' hr' => by
      obtain ⟨r0, h0, h1⟩ := List.mem_flatMap.mp hr'
      obtain ⟨g1, g2⟩ := h r0 h0
      obtain ⟨k1, k2⟩ := longer_ok hw g1 r' h1
      exact ⟨k1, by omega⟩) r hr
    refine ⟨this.1, ?_⟩
    rw [this.2, List.length_cons]
    omega
theorem longer_len {P : List Sw96.Place} {w : Nat} {d : Day} {r : MRow} (h : MOk P r.2) (h16 : P.length ≤ 16) : (longer w d r).length ≤ 17 := by
  unfold longer
  rw [List.length_map]
  have := choices_len r.2
  rw [h.len] at this
  omega
theorem rows_len {P : List Sw96.Place} {w : Nat} (hw : 0 < w) (h16 : P.length ≤ 16) : ∀ (ds : List Day) (R : List MRow), (∀ r ∈ R, MOk P r.2) → (rowsM w R ds).length ≤ R.length * 17 ^ ds.length
  | [], R, _ => by show R.length ≤ R.length * 17 ^ 0; omega
  | d :: ds, R, h => by
    have h1 := rows_len hw h16 ds (R.flatMap (longer w d)) (fun r' hr' => by
      obtain ⟨r0, h0, h1⟩ := List.mem_flatMap.mp hr'
      exact (longer_ok hw (h r0 h0) r' h1).1)
    have h2 := flat_len (longer w d) 17 R fun r hr => longer_len (h r hr) h16
    show (rowsM w (R.flatMap (longer w d)) ds).length ≤ R.length * 17 ^ (ds.length + 1)
    rw [Nat.pow_succ, Nat.mul_comm (17 ^ ds.length) 17, ← Nat.mul_assoc]
    exact Nat.le_trans h1 (Nat.mul_le_mul_right _ h2)
def flatL (ls : List (List Nat)) : List Nat := ls.flatMap fun l => l.length :: l
/-- between two turns of all_rows' inner loop -/
def AInv (a : Ads) (H1 : Hp) (pl : Addr) (S : List MRow) (H' : Hp) : Prop := ∃ zs : List V, H' pl = some (.lst zs) ∧ Same H1 H' ∧ zs.length = S.length ∧ ∀ (k : Nat) (y : V), zs[k]? = some y → ∃ (q' : Addr) (r : MRow), S[k]? = some r ∧ y = .ref q' ∧ Off pl H' (fun G => RowAt a G q' r)
/-- [x for x in xs if ..], the test by what stands beside x -/
theorem lc_sel {β : Type} {K : PySem.W.Frag} {a D : Addr} {xs : List V} {tt : TT} {te : TE} {σ : L2.St} {H1 : Hp} {Qd : Hp → Prop} {n : Nat} (zs : List β) (p : β → Bool) (hD : H1 D = none) (hS : SqL K H1 a xs) (hz : xs.length = zs.length) (hlen : xs.length ≤ 1000000)
    (ht : ∀ (i : Nat) (x : V) (z : β), xs[i]? = some x → zs[i]? = some z → ∀ (H : Hp) (Q : Bool → Hp → Prop), Same H1 H → Q (p z) H → tt ((wipe σ [n]).set n (some x)) H Q)
    (he : ∀ x, x ∈ xs → ∀ (H : Hp) (Q : VK), Same H1 H → Q x H → te ((wipe σ [n]).set n (some x)) H Q)
    (hd : Qd (upd H1 D (.lst (((xs.zip zs).filter fun w => p w.2).map (·.1))))) :
    ∃ W : Nat → Nat → Hp → Prop, (∃ m, W 0 m (upd H1 D (.lst []))) ∧ ∀ i m H, W i m H →
      ((Itl K a).stop i H ∧ Qd H) ∨ ((Itl K a).go i H ∧ ∃ Nx : Hp → Prop, (∀ H', Nx H' → ∃ m', m' < m ∧ W (i + 1) m' H') ∧ ∀ x H', (Itl K a).yld i H x H' → gName n x (wipe σ [n]) H' fun σ2 H2 => wipe σ2 [n] = wipe σ [n] ∧ tt σ2 H2 fun b H3 =>
        if b = true then te σ2 H3 fun y H4 => ∃ acc, H4 D = some (.lst acc) ∧ acc.length < sizeLine ∧ Nx (upd H4 D (.lst (acc ++ [y]))) else Nx H3) := by
  refine lc_list (K := K) (a := a) (xs := xs) (fun i H => H = upd H1 D (.lst ((((xs.zip zs).take i).filter fun w => p w.2).map (·.1)))) rfl (fun i H _ e => ?_) (fun i x H hx e => ?_) (fun H e => ?_)
  · rw [e]
    exact (same_upd hD).seq hS
  · have hi : i < xs.length := (List.getElem?_eq_some_iff.mp hx).1
    obtain ⟨z, hzz⟩ : ∃ z, zs[i]? = some z := ⟨_, List.getElem?_eq_getElem (by omega)⟩
    have hxz : (xs.zip zs)[i]? = some (x, z) := by rw [List.getElem?_zip_eq_some]; exact ⟨hx, hzz⟩
    refine ⟨wipe_one σ n x, ht i x z hx hzz H _ (by rw [e]; exact same_upd hD) ?_⟩
    cases hp : p z with
    | true =>
      refine iteT (he x (List.mem_of_getElem? hx) H _ (by rw [e]; exact same_upd hD) ⟨_, by rw [e]; exact upd_same, ?_, ?_⟩)
      · rw [List.length_map]
        have h1 := List.length_filter_le (fun w : V × β => p w.2) ((xs.zip zs).take i)
        have h2 : ((xs.zip zs).take i).length ≤ i := by rw [List.length_take]; exact Nat.min_le_left _ _
        rw [sizeLine_eq]
        omega
      · rw [e, upd_upd, take_snoc hxz, List.filter_append, List.map_append, List.filter_cons, hp, if_pos rfl]
        rfl
    | false =>
      refine iteF ?_
      rw [e, take_snoc hxz, List.filter_append, List.filter_cons, hp]
      simp
  · have e2 : (xs.zip zs).take xs.length = xs.zip zs := List.take_of_length_le (by rw [List.length_zip]; exact Nat.min_le_left _ _)
    rw [e, e2]
    exact hd
theorem sel_get {β : Type} {xs : List V} {zs : List β} {p : β → Bool} (hz : xs.length = zs.length) : (((xs.zip zs).filter fun w => p w.2).map (·.1)).length = (zs.filter p).length ∧
    ∀ (k : Nat) (y : V), (((xs.zip zs).filter fun w => p w.2).map (·.1))[k]? = some y → ∃ (z : β) (j : Nat), (zs.filter p)[k]? = some z ∧ xs[j]? = some y ∧ zs[j]? = some z := by
  have e : ((xs.zip zs).filter fun w => p w.2).map (·.2) = zs.filter p := by
    have e1 : (xs.zip zs).map (·.2) = zs := List.map_snd_zip (by omega)
    conv => rhs; rw [← e1]
    rw [List.filter_map]
    rfl
  refine ⟨by rw [← e, List.length_map, List.length_map], fun k y hy => ?_⟩
  rw [List.getElem?_map] at hy
  cases hz' : ((xs.zip zs).filter fun w => p w.2)[k]? with
  | none => rw [hz'] at hy; cases hy
  | some w =>
    rw [hz'] at hy
    have hy' : w.1 = y := Option.some.inj hy
    subst hy'
    have hm := (List.mem_filter.mp (List.mem_of_getElem? hz')).1
    obtain ⟨j, hj⟩ := List.getElem?_of_mem hm
    have hj2 := List.getElem?_zip_eq_some.mp hj
    refine ⟨w.2, j, ?_, hj2.1, hj2.2⟩
    rw [← e, List.getElem?_map, hz']
    rfl
section
variable {P : Program} {w : World} {K : PySem.W.Frag} {mg : Str → Option Value} {base : Heap} {a : Ads}
def sp_all_rows (a : Ads) : Sp := fun vs H Q _ => ∃ (pc pe : Addr) (s : Season) (m : Morning), vs = [.ref pc, .ref pe] ∧ CosAt a.c_Course H pc s ∧ EvAt a.c_Evening H pe m ∧ Good s ∧ MOk s.places m ∧
  ∀ H' q, Same H H' → RowsAt a H' q (rowsM s.width [([], m)] s.days) → Q (.ref q) H'
theorem ok_all_rows (T : Txt K mg a) : FnOk P w K mg base CX0 5 a.f_all_rows a.d_all_rows ["courses", "ahead"] (sp_all_rows a) := by
  refine T.F_all_rows.ok sc_all_rows (fun vs H Q E h => ?_) (fun cdv A outer s0 H vs Q E hr h => ?_)
  · obtain ⟨pc, pe, s, m, rfl, _⟩ := h
    rfl
  · obtain ⟨pc, pe, s, m, rfl, ⟨cs, hc1, hc2, hc3⟩, hE, g, mo, k⟩ := h
    have nd := sc_all_rows.nd
    have hr2 := hr.mono (j := 2) (by decide)
    refine ⟨_, pss_cons (ps_set (i := 2) nd rfl (Or.inl rfl) (pe_lst (pa_cons (pe_make T.mk_Row (ok_Row_init T) hr2 (by rfl) T.g_Row T.B_Row_init .nil pass0 (pa_cons (pe_lst pa_nil) (pa_cons (pv 1) pa_nil))) pa_nil)))
      (pss_cons (ps_for PassesOwn.never rfl (pi_list (pv 0)) (pg_name (i := 3) nd rfl (Or.inl rfl))
        (pss_cons (ps_set (i := 4) nd rfl (Or.inl rfl) (pe_lst pa_nil))
        (pss_cons (ps_for PassesOwn.never rfl (pi_list (pv 2)) (pg_name (i := 5) nd rfl (Or.inl rfl)) (pss_one (ps_expr (pe_bm PySem.F.plainAttrs_list PySem.F.slot_list_extend PySem.F.type_list_extend mt_extend (pv 4) (pa_cons (pe_meth (pv 5) T.cl_Row T.me_Row_longer_by (ok_longer_by T) hr T.B_Row_longer_by .nil pass0 (pa_cons (pv 3) pa_nil)) pa_nil)))))
        (pss_one (ps_set (i := 2) nd rfl (Or.inl rfl) (pv 4))))))
      (pss_one (ps_ret (pv 2)))), ?_⟩
    have w1 := g.w1
    -- rows = [Row([], ahead)]
    refine ⟨Nat.zero_le _, fun l1 n1 => ⟨_, rfl, fun x dx nx ndx nex => ⟨x, dx, l1, pe, rfl, upd_same, rfl, ?_⟩⟩⟩
    rw [upd_upd]
    refine ⟨(by show 1 ≤ sizeLine; decide), fun l2 n2 => ?_⟩
    have s1 := same_upd (o := .lst []) n1
    have s2 : Same (upd H l1 (.lst [])) (upd (upd (upd H l1 (.lst [])) dx (.own x)) x (.ins a.c_Row dx (fRow l1 pe))) := fun b o e => by
      rw [upd_ne (ne_of_none e nx), upd_ne (ne_of_none e ndx)]
      exact e
    have s3 := same_upd (o := .lst [V.ref x]) n2
    have k3 := (s1.trans s2).trans s3
    have hrow : RowsAt a (upd (upd (upd (upd H l1 (.lst [])) dx (.own x)) x (.ins a.c_Row dx (fRow l1 pe))) l2 (.lst [V.ref x])) l2 [([], m)] := by
      refine ⟨_, upd_same, rfl, fun i y hy => ?_⟩
      cases i with
      | zero =>
        have : V.ref x = y := Option.some.inj hy
        subst this
        exact ⟨x, _, rfl, rfl, dx, l1, pe, s3 _ _ upd_same, s3 _ _ (s2 _ _ upd_same), hE.mono k3⟩
      | succ i => simp at hy
    generalize (upd (upd (upd (upd H l1 (.lst [])) dx (.own x)) x (.ins a.c_Row dx (fRow l1 pe))) l2 (.lst [V.ref x])) = H3 at k3 hrow ⊢
    -- for course in courses
    refine ⟨_, rfl, pc, rfl, ⟨_, SqL.of (k3 _ _ hc1)⟩, for_list (xs := cs.map V.ref) (fun i σ H' => ∃ v3 v4 v5 pr, σ = [some (.ref pc), some (.ref pe), some (.ref pr), v3, v4, v5] ∧ Same H H' ∧ RowsAt a H' pr (rowsM s.width [([], m)] (s.days.take i))) ⟨none, none, none, l2, rfl, k3, hrow⟩ ?_ ?_ ?_⟩
    · rintro i σ H' _ ⟨v3, v4, v5, pr, rfl, q, _⟩
      exact SqL.of (q _ _ hc1)
    · rintro i x' σ H1 hx ⟨v3, v4, v5, pr, rfl, f1, f2⟩
      rw [List.getElem?_map] at hx
      obtain ⟨q, hq, rfl⟩ : ∃ q, cs[i]? = some q ∧ x' = .ref q := by
        cases e : cs[i]? with
        | none => rw [e] at hx; cases hx
        | some q => rw [e] at hx; exact ⟨q, rfl, (Option.some.inj hx).symm⟩
      have hi : i < s.days.length := by rw [← hc2]; exact (List.getElem?_eq_some_iff.mp hq).1
      obtain ⟨d, hd⟩ : ∃ d, s.days[i]? = some d := ⟨_, List.getElem?_eq_getElem hi⟩
      have hdm : d ∈ s.days := List.mem_of_getElem? hd
      have hco := hc3 i q d hq hd
      have R0 : ∀ r ∈ ([([], m)] : List MRow), MOk s.places r.2 ∧ r.1.length = 0 := fun r hr => by
        rw [List.mem_singleton.mp hr]
        exact ⟨mo, rfl⟩
      have hok := rows_ok (P := s.places) w1 (s.days.take i) _ 0 R0
      have hlen := rows_len (P := s.places) w1 g.n16 (s.days.take i) _ (fun r hr => (R0 r hr).1)
      rw [take_snoc hd, rowsM_snoc]
      generalize rowsM s.width [([], m)] (s.days.take i) = R at f2 hok hlen ⊢
      have few := g.few
      have htk : (s.days.take i).length = i := by rw [List.length_take]; omega
      have hR : R.length ≤ 289 := by
        rw [htk] at hlen
        have : (17 : Nat) ^ i ≤ 17 ^ 2 := Nat.pow_le_pow_right (by decide) (by omega)
        have e1 : ([([], m)] : List MRow).length = 1 := rfl
        rw [e1] at hlen
        omega
      obtain ⟨ys, r1, r2, r3⟩ := id f2
      -- longer = []
      refine ⟨Nat.zero_le _, fun pl npl => ?_⟩
      have s4 := same_upd (o := .lst []) npl
      refine ⟨_, rfl, pr, rfl, ⟨_, SqL.of (s4 _ _ r1)⟩, for_list (xs := ys) (fun j σ H' => ∃ v5, σ = [some (.ref pc), some (.ref pe), some (.ref pr), some (.ref q), some (.ref pl), v5] ∧ AInv a H1 pl ((R.take j).flatMap (longer s.width d)) H') ⟨v5, rfl, [], upd_same, s4, rfl, fun k y h => by simp at h⟩ ?_ ?_ ?_⟩
      · rintro j σ H' _ ⟨v5, rfl, zs, _, q, _⟩
        exact SqL.of (q _ _ r1)
      · rintro j y σ H4 hy ⟨v5, rfl, zs, z1, z2, z3, z4⟩
        obtain ⟨q', r, hr', rfl, hrw⟩ := r3 j y hy
        obtain ⟨o1, o2⟩ := hok r (List.mem_of_getElem? hr')
        obtain ⟨dxr, pb, pl', b1, _⟩ := id hrw
        refine ⟨_, rfl, .inl ⟨rfl, _, SqL.of z1⟩, _, rfl, q', dxr, _, rfl, z2 _ _ b1, rfl, _, rfl, q', q, s, d, r, rfl, hrw.mono z2, hco.mono (f1.trans z2), g, hdm, o1, by rw [o2, htk]; omega, fun H5 D5 s5 hD5 => ?_⟩
        obtain ⟨ys5, y1, y2, y3⟩ := hD5
        have y1' := new_sub _ _ y1
        have ll := longer_len (w := s.width) (d := d) o1 g.n16
        have zl : zs.length ≤ 289 * 17 := by
          rw [z3]
          refine Nat.le_trans (flat_len (longer s.width d) 17 (R.take j) fun r' hr'' => longer_len (hok r' (List.mem_of_mem_take hr'')).1 g.n16) ?_
          refine Nat.mul_le_mul_right _ ?_
          rw [List.length_take]
          omega
        refine ⟨pl, D5, _, _, rfl, rfl, s5 _ _ z1, y1', by rw [y2, sizeLine_eq]; omega, some (.ref q'), rfl, zs ++ ys5, upd_same, ?_, ?_, ?_⟩
        · intro b o e
          rw [upd_ne (ne_of_none e npl)]
          exact s5 _ _ (z2 _ _ e)
        · rw [take_snoc hr', List.flatMap_append, List.length_append, List.length_append, z3, y2]
          simp
        · intro k' y' hk'
          rw [take_snoc hr', List.flatMap_append]
          by_cases hkl : k' < zs.length
          · rw [List.getElem?_append_left hkl] at hk'
            obtain ⟨q2, r2', u1, u2, u3⟩ := z4 k' y' hk'
            exact ⟨q2, r2', by rw [List.getElem?_append_left (by rw [← z3]; exact hkl)]; exact u1, u2, (u3.same s5).upd⟩
          · rw [List.getElem?_append_right (by omega)] at hk'
            obtain ⟨q2, r2', u1, u2, u3⟩ := y3 _ y' hk'
            refine ⟨q2, r2', ?_, u2, (Off.new z1 u3).upd⟩
            rw [List.getElem?_append_right (by omega), ← z3]
            simpa using u1
      · rintro σ H4 ⟨v5, rfl, zs, z1, z2, z3, z4⟩
        rw [r2, List.take_length] at z3 z4
        refine ⟨_, rfl, _, _, _, pl, rfl, f1.trans z2, zs, z1, z3, fun k' y hy => ?_⟩
        obtain ⟨q2, r2', u1, u2, G, _, u4, u5⟩ := z4 k' y hy
        exact ⟨q2, r2', u1, u2, u5.mono u4⟩
    · rintro σ H1 ⟨v3, v4, v5, pr, rfl, f1, f2⟩
      rw [List.length_map, hc2, List.take_length] at f2
      exact ⟨_, rfl, k H1 pr f1 f2⟩
def sp_best_rows (a : Ads) : Sp := fun vs H Q _ => ∃ (pc pe : Addr) (s : Season) (m : Morning), vs = [.ref pc, .ref pe] ∧ CosAt a.c_Course H pc s ∧ EvAt a.c_Evening H pe m ∧ Good s ∧ MOk s.places m ∧
  ∀ H' q v r t, Same H H' → RowsAt a H' q (r :: t) → r.2.lost = v → Uw01.bestFrom s.width m s.days = ⟨v, t.length + 1, r.1⟩ → r.1.length ≤ 3 → Q (.ref q) H'
theorem ok_best_rows (T : Txt K mg a) : FnOk P w K mg base CX0 6 a.f_best_rows a.d_best_rows ["courses", "ahead"] (sp_best_rows a) := by
  refine T.F_best_rows.ok sc_best_rows (fun vs H Q E h => ?_) (fun cdv A outer s0 H vs Q E hr h => ?_)
  · obtain ⟨pc, pe, s, m, rfl, _⟩ := h
    rfl
  · obtain ⟨pc, pe, s, m, rfl, hC, hE, g, mo, k⟩ := h
    have nd := sc_best_rows.nd
    refine ⟨_, pss_cons (ps_set (i := 2) nd rfl (Or.inl rfl) (pe_call (ok_all_rows T) hr (by rfl) T.g_all_rows T.F_all_rows.kp T.B_all_rows .nil pass0 (pa_cons (pv 0) (pa_cons (pv 1) pa_nil))))
      (pss_cons (ps_set (i := 3) nd rfl (Or.inr rfl) (pe_callB (cr_min rfl) (by rfl) T.b_min boot_min (pa_cons (pe_lc rfl nd (pi_list (pv 2)) (own := [("row", 4)]) (blkOk_by (by show blkC ["courses", "ahead", "rows", "least", "row"] (defScope st_best_rows) _ _ = true; decide +kernel))
        (fun _ _ _ _ _ => pg_name (i := 4) nd rfl (Or.inl rfl)) (fun _ _ _ _ _ => pts_nil) (fun _ _ _ _ _ => pe_fldK (K := K) rfl (pe_fldK (K := K) rfl (pv 4) rfl) rfl)) pa_nil)))
      (pss_one (ps_ret (pe_lc rfl nd (pi_list (pv 2)) (own := [("row", 4)]) (blkOk_by (by show blkC ["courses", "ahead", "rows", "least", "row"] (defScope st_best_rows) _ _ = true; decide +kernel))
        (fun _ _ _ _ _ => pg_name (i := 4) nd rfl (Or.inl rfl)) (fun _ _ _ _ _ => pts_one (pt_cmpR op_eq (pe_fldK (K := K) rfl (pe_fldK (K := K) rfl (pv 4) rfl) rfl) (pv 3) (nomark _))) (fun _ _ _ _ _ => pv 4))))), ?_⟩
    refine ⟨_, rfl, _, rfl, pc, pe, s, m, rfl, hC, hE, g, mo, fun H1 pr s1 hR => ?_⟩
    have R0 : ∀ r ∈ ([([], m)] : List MRow), MOk s.places r.2 ∧ r.1.length = 0 := fun r hr => by
      rw [List.mem_singleton.mp hr]
      exact ⟨mo, rfl⟩
    have hok := rows_ok (P := s.places) g.w1 s.days _ 0 R0
    have hlen := rows_len (P := s.places) g.w1 g.n16 s.days _ (fun r hr => (R0 r hr).1)
    obtain ⟨v, r, t, b1, b2, b3, b4⟩ := best_rows_spec s.width m s.days
    have few := g.few
    have rlen : r.1.length ≤ 3 := by
      have hm : r ∈ rowsM s.width [([], m)] s.days := (List.mem_filter.mp (by rw [b1]; exact List.mem_cons_self ..)).1
      have := (hok r hm).2
      omega
    have rin : r ∈ rowsM s.width [([], m)] s.days := (List.mem_filter.mp (by rw [b1]; exact List.mem_cons_self ..)).1
    generalize hRd : rowsM s.width [([], m)] s.days = R at hR hok hlen b1 b3 rin
    have hRl : R.length ≤ 4913 := by
      have : (17 : Nat) ^ s.days.length ≤ 17 ^ 3 := Nat.pow_le_pow_right (by decide) few
      have e1 : ([([], m)] : List MRow).length = 1 := rfl
      rw [e1] at hlen
      omega
    obtain ⟨ys, r1, r2, r3⟩ := hR
    refine ⟨_, rfl, pr, rfl, ⟨_, SqL.of r1⟩, fun D nD => lc_build (fun i y _ => ∃ r : MRow, R[i]? = some r ∧ y = .int ((r.2.lost : Nat) : Int)) (fun _ _ _ _ h _ => h) nD (SqL.of r1) (by rw [r2]; omega) (fun i x hx H2 Q2 s2 k2 => ?_) (fun zs H2 s2 f1 f2 f3 => ?_)⟩
    · obtain ⟨q', r', u1, rfl, dxr, pb, pl, u2, u3, dxe, p1, p2, u4, u5, u6⟩ := r3 i x hx
      exact ⟨rfl, _, rfl, q', _, dxr, _, _, rfl, s2 _ _ u2, T.cl_Row, T.n_Row_last, rfl, pl, _, dxe, _, _, rfl, s2 _ _ u4, T.cl_Evening, T.n_Evening_lost, rfl, k2 _ _ (Same.refl _) ⟨r', u1, rfl⟩⟩
    · have ez : zs = (R.map fun r => ((r.2.lost : Nat) : Int)).map V.int := by
        apply List.ext_getElem?
        intro i
        rw [List.getElem?_map, List.getElem?_map]
        cases hz : zs[i]? with
        | none =>
          have : R.length ≤ i := by
            have := List.getElem?_eq_none_iff.mp hz
            omega
          rw [List.getElem?_eq_none this]
          rfl
        | some y =>
          obtain ⟨r', u1, u2⟩ := f3 i y hz
          rw [u1, u2]
          rfl
      rw [ez] at f2
      refine ⟨D, _, rfl, SqL.of f2, by rw [List.length_map]; exact List.length_pos_iff.mpr (List.ne_nil_of_mem rin), fun mn hmn hle => ?_⟩
      have emn : mn = (v : Int) := by
        obtain ⟨r', g1, g2⟩ := List.mem_map.mp hmn
        have h1 := b3 r' g1
        have h2 := hle _ (List.mem_map_of_mem rin)
        omega
      subst emn
      have s3 := s1.trans s2
      refine ⟨_, rfl, pr, rfl, ⟨_, SqL.of (s2 _ _ r1)⟩, fun D2 nD2 => lc_sel R (fun x => x.2.lost == v) nD2 (SqL.of (s2 _ _ r1)) r2 (by rw [r2]; omega) (fun i x z hx hz H3 Q3 t3 q3 => ?_) (fun x hx H3 Q3 t3 q3 => ⟨_, rfl, q3⟩) ?_⟩
      · obtain ⟨q', r', u1, rfl, dxr, pb, pl, u2, u3, dxe, p1, p2, u4, u5, u6⟩ := r3 i x hx
        rw [hz] at u1
        cases u1
        have t23 := s2.trans t3
        refine ⟨_, rfl, q', _, dxr, _, _, rfl, t23 _ _ u2, T.cl_Row, T.n_Row_last, rfl, pl, _, dxe, _, _, rfl, t23 _ _ u4, T.cl_Evening, T.n_Evening_lost, rfl, _, rfl, rfl, _, rfl, ?_⟩
        have e : decide (V.int ((z.2.lost : Nat) : Int) = V.int ((v : Nat) : Int)) = (z.2.lost == v) := by
          rw [Bool.eq_iff_iff, decide_eq_true_iff, beq_iff_eq]
          constructor
          · intro h
            injection h with h
            omega
          · intro h
            rw [h]
        rw [e]
        exact q3
      · obtain ⟨l1, l2⟩ := sel_get (xs := ys) (zs := R) (p := fun x => x.2.lost == v) r2
        refine k _ D2 v r t (s3.trans (same_upd nD2)) ⟨_, upd_same, by rw [l1, b1], fun i y hy => ?_⟩ b2 b4 rlen
        obtain ⟨z, j, u1, u2, u3⟩ := l2 i y hy
        obtain ⟨q', r', w1, w2, w3⟩ := r3 j y u2
        rw [u3] at w1
        cases w1
        exact ⟨q', z, by rw [← b1]; exact u1, w2, w3.mono (s2.trans (same_upd nD2))⟩
def sp_behind (K : PySem.W.Frag) : Sp := fun vs H Q _ => ∃ (p : Addr) (ys : List V) (ls : List (List Nat)), vs = [.ref p] ∧ SqL K H p ys ∧ ys.length = ls.length ∧ (∀ (k : Nat) (y : V), ys[k]? = some y → ∃ (q : Addr) (l : List Nat), ls[k]? = some l ∧ y = .ref q ∧ H q = some (.lst (nv l))) ∧ (∀ l ∈ ls, l.length ≤ 100) ∧ ls.length ≤ 100 ∧
  ∀ H' q, Same H H' → H' q = some (.lst (nv (flatL ls))) → Q (.ref q) H'
theorem ok_behind (T : Txt K mg a) : FnOk P w K mg base CX0 1 a.f_behind_lengths a.d_behind_lengths ["lists"] (sp_behind K) := by
  refine T.F_behind_lengths.ok sc_behind_lengths (fun vs H Q E h => ?_) (fun cdv A outer s0 H vs Q E hr h => ?_)
  · obtain ⟨p, ys, ls, rfl, _⟩ := h
    rfl
  · obtain ⟨p, ys, ls, rfl, hS, hl, hx, h100, hn, k⟩ := h
    have nd := sc_behind_lengths.nd
    refine ⟨_, pss_cons (ps_set (i := 1) nd rfl (Or.inl rfl) (pe_lst pa_nil))
      (pss_cons (ps_for PassesOwn.never rfl (pi_list (pv 0)) (pg_name (i := 2) nd rfl (Or.inl rfl))
        (pss_cons (ps_expr (pe_bm PySem.F.plainAttrs_list PySem.F.slot_list_append PySem.F.type_list_append mt_append (pv 1) (pa_cons (pe_callB call_len_seq (by rfl) T.b_len PySem.boot_len (pa_cons (pv 2) pa_nil)) pa_nil)))
        (pss_one (ps_expr (pe_bm PySem.F.plainAttrs_list PySem.F.slot_list_extend PySem.F.type_list_extend mt_extend (pv 1) (pa_cons (pv 2) pa_nil))))))
      (pss_one (ps_ret (pv 1)))), ?_⟩
    refine ⟨Nat.zero_le _, fun pt npt => ?_⟩
    have s1 := same_upd (o := .lst []) npt
    refine ⟨_, rfl, p, rfl, ⟨_, s1.seq hS⟩, for_list (xs := ys) (fun i σ H' => ∃ v2, σ = [some (.ref p), some (.ref pt), v2] ∧ Same H H' ∧ H' pt = some (.lst (nv (flatL (ls.take i))))) ⟨none, rfl, s1, upd_same⟩ ?_ ?_ ?_⟩
    · rintro i σ H' _ ⟨v2, rfl, q, _⟩
      exact q.seq hS
    · rintro i x σ H1 hxi ⟨v2, rfl, f1, f2⟩
      obtain ⟨q, l, u1, rfl, u2⟩ := hx i x hxi
      have nq : q ≠ pt := ne_of_none u2 npt
      have hll := h100 l (List.mem_of_getElem? u1)
      have fl : (flatL (ls.take i)).length ≤ 10100 := by
        unfold flatL
        refine Nat.le_trans (flat_len (fun l : List Nat => l.length :: l) 101 (ls.take i) fun l' hl' => ?_) ?_
        · rw [List.length_cons]
          have := h100 l' (List.mem_of_mem_take hl')
          omega
        · rw [List.length_take]
          have : min i ls.length ≤ 100 := by omega
          omega
      refine ⟨_, rfl, .inl ⟨rfl, _, SqL.of f2⟩, _, rfl, q, _, rfl, .inl (SqL.of (f1 _ _ u2)), pt, _, _, rfl, rfl, f2, by rw [nv_len, sizeLine_eq]; omega, ?_⟩
      refine ⟨_, rfl, .inl ⟨rfl, _, SqL.of upd_same⟩, _, rfl, pt, q, _, _, rfl, rfl, upd_same, by rw [upd_ne nq]; exact f1 _ _ u2, by rw [List.length_append, nv_len, nv_len, sizeLine_eq]; show _ + 1 + _ ≤ _; omega, some (.ref q), rfl, ?_, ?_⟩
      · intro b o e
        rw [upd_upd, upd_ne (ne_of_none e npt)]
        exact f1 _ _ e
      · rw [upd_same, take_snoc u1]
        unfold flatL
        rw [List.flatMap_append, nv_len]
        unfold nv
        simp
    · rintro σ H1 ⟨v2, rfl, f1, f2⟩
      rw [hl, List.take_length] at f2
      exact ⟨_, rfl, k H1 pt f1 f2⟩
end
end Fs

set_option Elab.async false
set_option maxRecDepth 100000
set_option maxHeartbeats 2000000
namespace Fs
open PySem PySem.Spec PyProof.Rows L2
open PySem.W (Codec)
open Uw01 (Morning Day Season slow worth out breakOut follow breaksOk)
open Uw01Neutral (breaksIn)
theorem breaks_out (row : List Nat) : (breaksIn row).map breakOut = row := by
  unfold breaksIn
  rw [List.map_map]
  conv => rhs; rw [← List.map_id row]
  refine List.map_congr_left fun x _ => ?_
  show breakOut (if x = 0 then none else some (x - 1)) = x
  by_cases h : x = 0
  · rw [if_pos h, h]
    rfl
  · rw [if_neg h]
    show x - 1 + 1 = x
    omega
theorem breaks_ok (s : Season) (row : List Nat) : breaksOk s (breaksIn row) = (decide (row.length = s.days.length) && between 0 (s.places.length : Int) (ni row)) := by
  unfold breaksOk breaksIn between ni
  rw [List.length_map, List.all_map, List.all_map]
  congr 1
  · congr 1
    funext x
    show (if x = 0 then (none : Option Nat) else some (x - 1)).all (fun i => decide (i < s.places.length)) = (decide ((0 : Int) ≤ (x : Int)) && decide ((x : Int) ≤ (s.places.length : Int)))
    by_cases h : x = 0
    · rw [if_pos h, h]
      simp
    · rw [if_neg h]
      show decide (x - 1 < s.places.length) = _
      rw [Bool.eq_iff_iff, Bool.and_eq_true, decide_eq_true_iff, decide_eq_true_iff, decide_eq_true_iff]
      omega
theorem breaks_in {s : Season} {row : List Nat} (h : breaksOk s (breaksIn row) = true) : (breaksIn row).length = s.days.length ∧ ∀ b ∈ breaksIn row, ∀ i, b = some i → i < s.places.length := by
  unfold breaksOk at h
  rw [Bool.and_eq_true] at h
  refine ⟨beq_iff_eq.mp h.1, fun b hb i hi => ?_⟩
  have := (List.all_eq_true.mp h.2) b hb
  subst hi
  exact of_decide_eq_true this
theorem follow_ok {P : List Sw96.Place} {w : Nat} (hw : 0 < w) : ∀ (ds : List Day) (bs : List (Option Nat)) (m : Morning) (l : List Morning), MOk P m → follow w m ds bs = some l → ∀ x ∈ l, MOk P x
  | [], [], m, l, _, h => by
    have : l = [] := (Option.some.inj h).symm
    subst this
    intro x hx
    simp at hx
  | d :: ds, b :: bs, m, l, mo, h => by
    have h' : (if (b.any fun i => !m.may i) = true then none else (follow w ((m.cut b).next w d) ds bs).map fun l => (m.cut b).next w d :: l) = some l := h
    split at h'
    · cases h'
    · rename_i hc
      have may : MayB m b := by unfold MayB; simpa using hc
      cases e : follow w ((m.cut b).next w d) ds bs with
      | none => rw [e] at h'; cases h'
      | some l' =>
        rw [e] at h'
        have := (Option.some.inj h').symm
        subst this
        have mo' := (mo.cut may).next (w := w) (d := d) hw
        intro x hx
        rcases List.mem_cons.mp hx with rfl | q
        · exact mo'
        · exact follow_ok hw ds bs _ l' mo' e x q
  | [], _ :: _, _, _, _, h => by cases h
  | _ :: _, [], _, _, _, h => by cases h
theorem at_last {xs : List V} {v : V} (h : xs[xs.length - 1]? = some v) : atI xs (-1) = some v := by
  have hl : 0 < xs.length := by
    have := (List.getElem?_eq_some_iff.mp h).1
    omega
  unfold atI ixN
  rw [if_neg (by decide), if_pos (by omega)]
  show xs[((-1 : Int) + (xs.length : Int)).toNat]? = some v
  rw [show ((-1 : Int) + (xs.length : Int)).toNat = xs.length - 1 by omega]
  exact h
theorem cut_one (xs : List V) : cutV xs (some 1) none = xs.drop 1 := by
  unfold cutV
  have e : HT.sIx xs.length 0 (some 1) = min 1 xs.length := HT.sIx_nat _ _ 1
  rw [e, HT.sIx_none]
  cases xs with
  | nil => rfl
  | cons x xs =>
    rw [show min 1 (x :: xs).length = 1 by rw [List.length_cons]; omega]
    exact List.take_of_length_le (by rw [List.length_drop]; omega)
theorem near_ok {s : Season} (g : Good s) : NearOk s.width s.places.length 4 := by
  refine ⟨g.w1, fun i hi x hx => ?_⟩
  have e := nearP_near (f := ⟨s.width, s.places, [], []⟩) (p := i) g.w1 g.w4 g.full hi
  rw [show nearP s.width s.places.length i = (⟨s.width, s.places, [], []⟩ : Sw96.Forest).near i from e] at hx
  exact ⟨near_dir hx, near_lt hi hx⟩
section
variable {P : Program} {w : World} {K : PySem.W.Frag} {mg : Str → Option Value} {base : Heap} {a : Ads}
def sp_are_breaks (a : Ads) : Sp := fun vs H Q _ => ∃ (p pd q : Addr) (O : Addr → Prop) (s : Season) (row : List Nat), vs = [.ref p, .ref q] ∧ SeasonAt a H p pd O s ∧ H q = some (.lst (nv row)) ∧ row.length ≤ 100 ∧ ∀ H', Same H H' → Q (.bl (breaksOk s (breaksIn row))) H'
theorem ok_are_breaks (T : Txt K mg a) : FnOk P w K mg base CX0 2 a.f_Season_are_breaks a.d_Season_are_breaks ["self", "breaks"] (sp_are_breaks a) := by
  refine T.F_Season_are_breaks.ok sc_Season_are_breaks (fun vs H Q E h => ?_) (fun cdv A outer s0 H vs Q E hr h => ?_)
  · obtain ⟨p, pd, q, O, s, row, rfl, _⟩ := h
    rfl
  · obtain ⟨p, pd, q, O, s, row, rfl, hs, hq, hl, k⟩ := h
    obtain ⟨dx, ps, pw, wd, ds, h1, h2, h3, h4, h5, h6, h7, h8, h9, o1, o2⟩ := hs.ex
    refine ⟨_, pss_one (ps_ret (pe_and (pe_cmpR op_eq (pe_callB call_len_seq (by rfl) T.b_len PySem.boot_len (pa_cons (pv 1) pa_nil)) (pe_callB call_len_seq (by rfl) T.b_len PySem.boot_len (pa_cons (pe_fld (pv 0) rfl) pa_nil)) (nomark _))
      (pe_one (pe_call (ok_all_between T) hr (by rfl) T.g_all_between T.F_all_between.kp T.B_all_between .nil pass0 (pa_cons (pv 1) (pa_cons pe_int (pa_cons (pe_callB call_len_seq (by rfl) T.b_len PySem.boot_len (pa_cons (pe_fld (pv 0) rfl) pa_nil)) pa_nil))))))), ?_⟩
    rw [breaks_ok] at k
    refine ⟨_, rfl, q, _, rfl, .inl (SqL.of hq), _, rfl, p, _, dx, _, _, rfl, h1, T.cl_Season, T.n_Season_days, rfl, pd, _, rfl, .inl (SqL.of h5), rfl, _, rfl, iteB (fun c => ?_) (fun c => ?_)⟩
    · have c' : decide (row.length = s.days.length) = true := by
        have c1 : V.int (((nv row).length : Nat) : Int) = V.int (((ds.map V.ref).length : Nat) : Int) := of_decide_eq_true c
        injection c1 with c1
        rw [nv_len, List.length_map, h8] at c1
        exact decide_eq_true (by omega)
      rw [c', Bool.true_and] at k
      have hq' := hq
      rw [nv_ni] at hq'
      refine ⟨_, rfl, _, rfl, p, _, dx, _, _, rfl, h1, T.cl_Season, T.n_Season_slowness, rfl, ps, _, rfl, .inl (SqL.of h3), q, ni row, 0, _, rfl, SqL.of hq', by unfold ni; rw [List.length_map]; omega, fun H1 s1 => ?_⟩
      have e : (((nv (s.places.map (·.slow))).length : Nat) : Int) = (s.places.length : Int) := by rw [nv_len, List.length_map]
      rw [e]
      exact k H1 s1
    · have c' : decide (row.length = s.days.length) = false := by
        have c1 : ¬ V.int (((nv row).length : Nat) : Int) = V.int (((ds.map V.ref).length : Nat) : Int) := of_decide_eq_false c
        refine decide_eq_false fun z => c1 ?_
        rw [nv_len, List.length_map, h8, z]
      rw [c', Bool.false_and] at k
      exact k H (Same.refl H)
def sp_Season_ahead (a : Ads) : Sp := fun vs H Q _ => ∃ (p pd : Addr) (O : Addr → Prop) (s : Season), vs = [.ref p] ∧ SeasonAt a H p pd O s ∧ Good s ∧ ∀ H' q, Same H H' → EvAt a.c_Evening H' q s.start → Q (.ref q) H'
theorem ok_Season_ahead (T : Txt K mg a) : FnOk P w K mg base CX0 4 a.f_Season_ahead a.d_Season_ahead ["self"] (sp_Season_ahead a) := by
  refine T.F_Season_ahead.ok sc_Season_ahead (fun vs H Q E h => ?_) (fun cdv A outer s0 H vs Q E hr h => ?_)
  · obtain ⟨p, pd, O, s, rfl, _⟩ := h
    rfl
  · obtain ⟨p, pd, O, s, rfl, hs, g, k⟩ := h
    obtain ⟨dx, ps, pw, wd, ds, h1, h2, h3, h4, h5, h6, h7, h8, h9, o1, o2⟩ := hs.ex
    refine ⟨_, pss_one (ps_ret (pe_call (ok_ahead T) hr (by rfl) T.g_evening_ahead_of_all T.F_evening_ahead_of_all.kp T.B_evening_ahead_of_all .nil pass0 (pa_cons (pe_fld (pv 0) rfl) pa_nil))), ?_⟩
    exact ⟨_, rfl, p, _, dx, _, _, rfl, h1, T.cl_Season, T.n_Season_slowness, rfl, ps, s.places, rfl, SqL.of h3, g.n16, fun H' q s1 hE => k H' q s1 (hE.mono new_sub)⟩
def sp_Season_courses (a : Ads) : Sp := fun vs H Q _ => ∃ (p pd : Addr) (O : Addr → Prop) (s : Season), vs = [.ref p] ∧ SeasonAt a H p pd O s ∧ Good s ∧ ∀ H' q, Same H H' → CosAt a.c_Course H' q s → Q (.ref q) H'
theorem ok_Season_courses (T : Txt K mg a) : FnOk P w K mg base CX0 5 a.f_Season_courses a.d_Season_courses ["self"] (sp_Season_courses a) := by
  refine T.F_Season_courses.ok sc_Season_courses (fun vs H Q E h => ?_) (fun cdv A outer s0 H vs Q E hr h => ?_)
  · obtain ⟨p, pd, O, s, rfl, _⟩ := h
    rfl
  · obtain ⟨p, pd, O, s, rfl, hs, g, k⟩ := h
    obtain ⟨dx, ps, pw, wd, ds, h1, h2, h3, h4, h5, h6, h7, h8, h9, o1, o2⟩ := hs.ex
    have nd := sc_Season_courses.nd
    refine ⟨_, pss_one (ps_ret (pe_lc rfl nd (pi_list (pe_fld (pv 0) rfl)) (own := [("day", 1)]) (blkOk_by (by show blkC ["self", "day"] (defScope st_Season_courses) _ _ = true; decide +kernel))
      (fun _ _ _ _ _ => pg_name (i := 1) nd rfl (Or.inl rfl)) (fun _ _ _ _ _ => pts_nil)
      (fun _ _ _ _ _ => pe_make T.mk_Course (ok_Course_init T) hr (by rfl) T.g_Course T.B_Course_init .nil pass0 (pa_cons (pe_fldK (K := K) rfl (pv 0) rfl) (pa_cons (pe_fldK (K := K) rfl (pv 0) rfl) (pa_cons (pe_fldK (K := K) rfl (pv 0) rfl) (pa_cons (pv 1) pa_nil))))))), ?_⟩
    have few := g.few
    refine ⟨_, rfl, p, _, dx, _, _, rfl, h1, T.cl_Season, T.n_Season_days, rfl, pd, rfl, ⟨_, SqL.of h5⟩, fun D nD => lc_build (fun i y G => ∃ (q : Addr) (d : Day) (pws pwh dxc : Addr), s.days[i]? = some d ∧ y = .ref q ∧ G q = some (.ins a.c_Course dxc (fCou pw pws (d.minutes : Int) pwh)) ∧ WaysAt G pws ((List.range s.places.length).map (waysP s.width (s.places.map (·.slow)) d.wind)) ∧ H pwh = some (.lst (nv d.strikes)))
      (fun i y G G' h s => ?_) nD (SqL.of h5) (by rw [List.length_map, h8]; omega) (fun i x hx H2 Q2 s2 k2 => ?_) (fun ys H2 s2 f1 f2 f3 => ?_)⟩
    · obtain ⟨q, d, pws, pwh, dxc, g1, g2, g3, g4, g5⟩ := h
      exact ⟨q, d, pws, pwh, dxc, g1, g2, s _ _ g3, g4.mono s, g5⟩
    · rw [List.getElem?_map] at hx
      obtain ⟨qd, hq, rfl⟩ : ∃ q, ds[i]? = some q ∧ x = .ref q := by
        cases e : ds[i]? with
        | none => rw [e] at hx; cases hx
        | some q => rw [e] at hx; exact ⟨q, rfl, (Option.some.inj hx).symm⟩
      have hi : i < s.days.length := by rw [← h8]; exact (List.getElem?_eq_some_iff.mp hq).1
      obtain ⟨d, hd⟩ : ∃ d, s.days[i]? = some d := ⟨_, List.getElem?_eq_getElem hi⟩
      have hdm : d ∈ s.days := List.mem_of_getElem? hd
      obtain ⟨dxd, pwi, pwh, d1, d2, d3, _⟩ := (h9 i qd d hq hd).ex
      refine ⟨rfl, _, rfl, p, _, dx, _, _, rfl, s2 _ _ h1, T.cl_Season, T.n_Season_wide, rfl, _, rfl, p, _, dx, _, _, rfl, s2 _ _ h1, T.cl_Season, T.n_Season_slowness, rfl, _, rfl, p, _, dx, _, _, rfl, s2 _ _ h1, T.cl_Season, T.n_Season_worth, rfl, _, rfl, fun x dx' nx ndx nex => ?_⟩
      have sm : Same H2 (upd (upd H2 dx' (.own x)) x (.ins a.c_Course dx' [])) := fun b o e => by
        rw [upd_ne (ne_of_none e nx), upd_ne (ne_of_none e ndx)]
        exact e
      have k3 := s2.trans sm
      have wl := g.wind d hdm
      have sll : (s.places.map (·.slow)).length = s.places.length := List.length_map ..
      refine ⟨x, dx', ps, pw, qd, dxd, pwi, pwh, wd, s.width, s.places.map (·.slow), d.wind, _, rfl, upd_same, k3 _ _ h3, k3 _ _ d1, k3 _ _ d2, ?_, by rw [sll, wl]; exact near_ok g, fun y hy => ?_, by rw [sll]; exact g.n16, fun H4 pws b4 p4 w4 => ⟨rfl, k2 _ _ (Same.made nx ndx b4) ⟨x, d, pws, pwh, dx', hd, rfl, ?_, ?_, d3⟩⟩⟩
      · rcases h2 with z | z
        · exact .inl (by rw [z]; rfl)
        · exact .inr z
      · obtain ⟨pl, hp, rfl⟩ := List.mem_map.mp hy
        exact g.slo pl hp
      · rw [new_eq nx]
        exact p4
      · rw [sll] at w4
        exact w4.mono (new_mono sm)
    · have ey : ys.length = s.days.length := by rw [f1, List.length_map, h8]
      have key : ∀ i, i < ys.length → ∃ q, ys[i]? = some (.ref q) := fun i hi => by
        obtain ⟨q, d, pws, pwh, dxc, g1, g2, _⟩ := f3 i _ (List.getElem?_eq_getElem hi)
        exact ⟨q, by rw [List.getElem?_eq_getElem hi, g2]⟩
      let cs : List Addr := ys.map fun v => match v with | .ref q => q | _ => 0
      have ecs : ys = cs.map V.ref := by
        apply List.ext_getElem?
        intro i
        rw [List.getElem?_map, List.getElem?_map]
        by_cases hi : i < ys.length
        · obtain ⟨q, hq⟩ := key i hi
          rw [hq]
          rfl
        · rw [List.getElem?_eq_none (by omega)]
          rfl
      refine k H2 D s2 ⟨cs, by rw [f2, ecs], by rw [List.length_map]; exact ey, fun i q d u v => ?_⟩
      have hy : ys[i]? = some (.ref q) := by rw [ecs, List.getElem?_map, u]; rfl
      obtain ⟨q', d', pws, pwh, dxc, g1, g2, g3, g4, g5⟩ := f3 i _ hy
      injection g2 with g2
      subst g2
      rw [v] at g1
      cases g1
      exact ⟨dxc, pw, pws, pwh, new_sub _ _ g3, s2 _ _ h4, g4.mono new_sub, s2 _ _ g5⟩
end
end Fs

set_option Elab.async false
set_option maxRecDepth 100000
set_option maxHeartbeats 2000000
namespace Fs
open PySem PySem.Spec PyProof.Rows L2
open PySem.W (Codec)
open Uw01 (Morning Day Season slow worth out breakOut follow breaksOk last)
open Uw01Neutral (breaksIn)
theorem out_nv (x : Uw01.Ans) : (Uw01Neutral.out x).map V.int = [V.int x.v] ++ nv (flatL x.l) := by
  unfold Uw01Neutral.out flatL nv
  rw [List.map_cons, List.map_flatMap, List.map_flatMap]
  congr 2
  funext l
  rw [List.map_cons, List.map_cons, List.map_map]
  rfl
theorem evs_at {C : Addr} {H : Hp} {pe : Addr} {m : Morning} {es : List Addr} {l : List Morning} (h : EvAt C H pe m) (hs : EvsAt C H es l) {k : Nat} (hk : k ≤ l.length) : ∃ rb, (pe :: es)[k]? = some rb ∧ EvAt C H rb (last m (l.take k)) := by
  have e := last_take m l k hk
  cases k with
  | zero => exact ⟨pe, rfl, h⟩
  | succ k =>
    have hk' : k < es.length := by rw [hs.1]; exact hk
    refine ⟨es[k], by rw [List.getElem?_cons_succ, List.getElem?_eq_getElem hk'], ?_⟩
    rw [List.getElem?_cons_succ] at e
    exact hs.2 k _ _ (List.getElem?_eq_getElem hk') e
section
variable {P : Program} {w : World} {K : PySem.W.Frag} {mg : Str → Option Value} {base : Heap} {a : Ads}
def sp_Season_follow (a : Ads) : Sp := fun vs H Q _ => ∃ (p pd q : Addr) (O : Addr → Prop) (s : Season) (row : List Nat), vs = [.ref p, .ref q] ∧ SeasonAt a H p pd O s ∧ H q = some (.lst (nv row)) ∧ row.length ≤ 16 ∧ Good s ∧
  ∀ H' r, Same H H' → H r = none → H' r = some (.lst ((Uw01Neutral.out (Uw01.step s (.follow (breaksIn row))).2).map V.int)) → Q (.ref r) H'
theorem ok_Season_follow (T : Txt K mg a) : FnOk P w K mg base CX0 6 a.f_Season_follow a.d_Season_follow ["self", "breaks"] (sp_Season_follow a) := by
  refine T.F_Season_follow.ok sc_Season_follow (fun vs H Q E h => ?_) (fun cdv A outer s0 H vs Q E hr h => ?_)
  · obtain ⟨p, pd, q, O, s, row, rfl, _⟩ := h
    rfl
  · obtain ⟨p, pd, q, O, s, row, rfl, hs, hq, hl, g, k⟩ := h
    obtain ⟨t1, g1⟩ := T.k_NOT_AS_TOLD
    obtain ⟨t2, g2⟩ := T.k_NOT_CUT_THERE
    have nd := sc_Season_follow.nd
    have hr1 := hr.mono (j := 1) (by decide)
    have hr2 := hr.mono (j := 2) (by decide)
    have hr4 := hr.mono (j := 4) (by decide)
    refine ⟨_, pss_cons (ps_if (pt_not (pt_val (pe_meth (pv 0) T.cl_Season T.me_Season_are_breaks (ok_are_breaks T) hr2 T.B_Season_are_breaks .nil pass0 (pa_cons (pv 1) pa_nil)))) (pss_one (ps_ret (pe_lst (pa_cons (pe_glob (v := .int (-1)) (by rfl) g1 ⟨_, rfl⟩) pa_nil)))) pss_nil)
      (pss_cons (ps_try (C := a.c_MayNotBeCut) (fun pn E => pss_one (ps_set (i := 2) nd rfl (Or.inl rfl) (pe_call (E := E) (ok_follow_breaks T) hr4 (by rfl) T.g_follow_breaks T.F_follow_breaks.kp T.B_follow_breaks .nil pass_tr (pa_cons (pe_meth0 (pv 0) T.cl_Season T.me_Season_courses (ok_Season_courses T) hr T.B_Season_courses .nil pass0) (pa_cons (pe_meth0 (pv 0) T.cl_Season T.me_Season_ahead (ok_Season_ahead T) hr4 T.B_Season_ahead .nil pass0) (pa_cons (pv 1) pa_nil))))))
        (fun e => pss_one (ps_ret (pe_lst (pa_cons (pe_glob (v := .int (-6)) (by rfl) g2 ⟨_, rfl⟩) pa_nil)))) (by rfl) T.g_MayNotBeCut T.e_MayNotBeCut rfl rfl (fun _ => PassesOwnAt.never))
      (pss_one (ps_ret (pe_op op_cat (pe_lst (pa_cons (pe_fld (pe_ix ix_list (pv 2) (pe_un un_neg pe_int) (fun _ _ => rfl)) rfl) pa_nil))
        (pe_call (ok_behind T) hr1 (by rfl) T.g_behind_lengths T.F_behind_lengths.kp T.B_behind_lengths .nil pass0 (pa_cons (pe_lc rfl nd (pi_list (pe_slice sl_list (pv 2) (po_some pe_int) po_none)) (own := [("evening", 3)]) (blkOk_by (by show blkC ["self", "breaks", "evenings", "evening"] (defScope st_Season_follow) _ _ = true; decide +kernel))
          (fun _ _ _ _ _ => pg_name (i := 3) nd rfl (Or.inl rfl)) (fun _ _ _ _ _ => pts_nil) (fun _ _ _ _ _ => pe_fldK (K := K) rfl (pv 3) rfl)) pa_nil)))))), ?_⟩
    obtain ⟨dx, ps, pw, wd, ds, h1, _⟩ := id hs.ex
    have est : Uw01.step s (.follow (breaksIn row)) = if breaksOk s (breaksIn row) = false then (s, Uw01.ok (-1)) else (s, match s.days_ (breaksIn row) with
      | some l => ⟨((last s.start l).lost : Nat), l.map fun m => m.burning⟩
      | none => Uw01.ok (-6)) := rfl
    rw [est] at k
    refine ⟨_, rfl, p, dx, _, rfl, h1, rfl, _, rfl, p, pd, q, O, s, row, rfl, hs, hq, by omega, fun H1 s1 => ⟨_, rfl, ?_⟩⟩
    cases hb : breaksOk s (breaksIn row) with
    | false =>
      rw [hb, if_pos rfl] at k
      exact iteT ⟨(by show 1 ≤ sizeLine; decide), fun r nr => k _ r (s1.trans (same_upd nr)) (s1.free nr) (by rw [upd_same]; rfl)⟩
    | true =>
      rw [hb, if_neg (by decide)] at k
      obtain ⟨b1, b2⟩ := breaks_in hb
      refine iteF ?_
      refine ⟨_, rfl, p, dx, _, rfl, s1 _ _ h1, rfl, p, pd, O, s, rfl, hs.same s1, g, fun H2 pc s2 hC => ?_⟩
      have k2 := s1.trans s2
      refine ⟨_, rfl, p, dx, _, rfl, k2 _ _ h1, rfl, p, pd, O, s, rfl, hs.same k2, g, fun H3 pe s3 hE => ?_⟩
      have k3 := k2.trans s3
      refine ⟨_, rfl, pc, pe, q, s, breaksIn row, s.start, rfl, hC.mono s3, hE, by rw [breaks_out]; exact k3 _ _ hq, b1, b2, g, MOk.start _, fun l hfl H4 pev es s4 hpev hEv => ?_, fun hn H4 s4 => ?_⟩
      · have k4 := k3.trans s4
        have hfl' : s.days_ (breaksIn row) = some l := hfl
        rw [hfl'] at k
        have ll : l.length ≤ 3 := by
          rw [follow_len _ _ _ _ _ hfl]
          exact g.few
        have lok := follow_ok (P := s.places) g.w1 _ _ _ _ (MOk.start s.places) hfl
        obtain ⟨rb, e1, dxe, pbe, pfe, e2, e3, e4⟩ := evs_at (hE.mono s4) hEv (Nat.le_refl l.length)
        rw [List.take_length] at e2
        have eix : ((pe :: es).map V.ref)[((pe :: es).map V.ref).length - 1]? = some (V.ref rb) := by
          rw [List.length_map, List.length_cons, hEv.1, List.getElem?_map, show l.length + 1 - 1 = l.length by omega, e1]
          rfl
        refine ⟨_, rfl, _, rfl, pev, _, _, _, rfl, rfl, SqL.of hpev, at_last eix, rb, _, dxe, _, _, rfl, e2, T.cl_Evening, T.n_Evening_lost, rfl, (by show 1 ≤ sizeLine; decide), fun l1 n1 => ?_⟩
        have s5 := same_upd (o := .lst [V.int (((last s.start l).lost : Nat) : Int)]) n1
        refine ⟨_, rfl, _, rfl, pev, _, rfl, SqL.of (s5 _ _ hpev), fun l2 n2 => ?_⟩
        rw [cut_one]
        have s6 := same_upd (o := .lst (((pe :: es).map V.ref).drop 1)) n2
        have e6 : ((pe :: es).map V.ref).drop 1 = es.map V.ref := by simp
        rw [e6] at s6 ⊢
        refine ⟨l2, rfl, ⟨_, SqL.of upd_same⟩, fun D nD => lc_build (fun i y _ => ∃ (pf : Addr) (x : Morning), l[i]? = some x ∧ y = .ref pf ∧ H4 pf = some (.lst (nv x.burning))) (fun _ _ _ _ h _ => h) nD (SqL.of upd_same) (by rw [List.length_map, hEv.1]; omega) (fun i x hx H7 Q7 s7 k7 => ?_) (fun ys H7 s7 f1 f2 f3 => ?_)⟩
        · rw [List.getElem?_map] at hx
          obtain ⟨r, hr', rfl⟩ : ∃ r, es[i]? = some r ∧ x = .ref r := by
            cases e : es[i]? with
            | none => rw [e] at hx; cases hx
            | some r => rw [e] at hx; exact ⟨r, rfl, (Option.some.inj hx).symm⟩
          obtain ⟨m, hm⟩ : ∃ m, l[i]? = some m := ⟨_, List.getElem?_eq_getElem (by rw [← hEv.1]; exact (List.getElem?_eq_some_iff.mp hr').1)⟩
          obtain ⟨dxr, pb', pf', v1, v2, v3⟩ := hEv.2 i r m hr' hm
          exact ⟨rfl, _, rfl, r, _, dxr, _, _, rfl, s7 _ _ (s6 _ _ (s5 _ _ v1)), T.cl_Evening, T.n_Evening_fire, rfl, k7 _ _ (Same.refl _) ⟨pf', m, hm, rfl, v3⟩⟩
        · have k56 := s5.trans s6
          have k57 := k56.trans s7
          refine ⟨D, ys, l.map (fun m => m.burning), rfl, SqL.of f2, ?_, fun i y hy => ?_, fun x hx => ?_, ?_, fun H8 r s8 hr8 => ?_⟩
          · rw [f1, List.length_map, List.length_map, hEv.1]
          · obtain ⟨pf', m, u1, u2, u3⟩ := f3 i y hy
            exact ⟨pf', m.burning, by rw [List.getElem?_map, u1]; rfl, u2, k57 _ _ u3⟩
          · obtain ⟨m, hm, rfl⟩ := List.mem_map.mp hx
            have := (lok m hm).few
            have := g.n16
            omega
          · rw [List.length_map]
            omega
          · have fl : (flatL (l.map fun m => m.burning)).length ≤ 60 := by
              unfold flatL
              refine Nat.le_trans (flat_len (fun l : List Nat => l.length :: l) 17 _ fun x hx => ?_) ?_
              · obtain ⟨m, hm, rfl⟩ := List.mem_map.mp hx
                have := (lok m hm).few
                have := g.n16
                rw [List.length_cons]
                omega
              · rw [List.length_map]
                omega
            refine ⟨l1, r, _, _, rfl, rfl, s8 _ _ (s7 _ _ (s6 _ _ upd_same)), hr8, by rw [nv_len, sizeLine_eq]; show 1 + _ ≤ _; omega, fun fin nfin => k _ fin (((k4.trans k57).trans s8).trans (same_upd nfin)) (((k4.trans k57).trans s8).free nfin) ?_⟩
            rw [upd_same, out_nv]
      · have hn' : s.days_ (breaksIn row) = none := hn
        rw [hn'] at k
        intro σ'
        have k4 := k3.trans s4
        exact ⟨(by show 1 ≤ sizeLine; decide), fun r nr => k _ r (k4.trans (same_upd nr)) (k4.free nr) (by rw [upd_same]; rfl)⟩
end
end Fs

set_option Elab.async false
set_option maxRecDepth 100000
set_option maxHeartbeats 2000000
namespace Fs
open PySem PySem.Spec PyProof.Rows L2
open PySem.W (Codec)
open Uw01 (Morning Day Season slow worth out breakOut follow breaksOk last)
open Uw01Neutral (breaksIn)
theorem could_eq (m : Morning) : couldL m = (List.range m.places.length).filter fun i => slow m.places i != 0 && !m.burning.contains i := by
  unfold couldL
  refine List.filter_congr fun i hi => ?_
  unfold Uw01.Morning.may
  rw [decide_eq_true (List.mem_range.mp hi), Bool.true_and]
theorem last_ok {P : List Sw96.Place} {m : Morning} {l : List Morning} (mo : MOk P m) (h : ∀ x ∈ l, MOk P x) (k : Nat) (hk : k ≤ l.length) : MOk P (last m (l.take k)) := by
  have e := last_take m l k hk
  rcases List.mem_cons.mp (List.mem_of_getElem? e) with q | q
  · rw [q]
    exact mo
  · exact h _ q
section
variable {P : Program} {w : World} {K : PySem.W.Frag} {mg : Str → Option Value} {base : Heap} {a : Ads}
def sp_Season_evening (a : Ads) : Sp := fun vs H Q _ => ∃ (p pd q : Addr) (O : Addr → Prop) (s : Season) (kk : Nat) (row : List Nat), vs = [.ref p, .int (kk : Int), .ref q] ∧ SeasonAt a H p pd O s ∧ H q = some (.lst (nv row)) ∧ row.length ≤ 16 ∧ Good s ∧
  ∀ H' r, Same H H' → H r = none → H' r = some (.lst ((Uw01Neutral.out (Uw01.step s (.evening kk (breaksIn row))).2).map V.int)) → Q (.ref r) H'
theorem ok_Season_evening (T : Txt K mg a) : FnOk P w K mg base CX0 6 a.f_Season_evening a.d_Season_evening ["self", "k", "breaks"] (sp_Season_evening a) := by
  refine T.F_Season_evening.ok sc_Season_evening (fun vs H Q E h => ?_) (fun cdv A outer s0 H vs Q E hr h => ?_)
  · obtain ⟨p, pd, q, O, s, kk, row, rfl, _⟩ := h
    rfl
  · obtain ⟨p, pd, q, O, s, kk, row, rfl, hs, hq, hl, g, k⟩ := h
    obtain ⟨t1, g1⟩ := T.k_NOT_AS_TOLD
    obtain ⟨t2, g2⟩ := T.k_NOT_CUT_THERE
    have nd := sc_Season_evening.nd
    have hr1 := hr.mono (j := 1) (by decide)
    have hr2 := hr.mono (j := 2) (by decide)
    have hr4 := hr.mono (j := 4) (by decide)
    refine ⟨_, pss_cons (ps_if (pw_or (pt_not (pt_val (pe_meth (pv 0) T.cl_Season T.me_Season_are_breaks (ok_are_breaks T) hr2 T.B_Season_are_breaks .nil pass0 (pa_cons (pv 2) pa_nil)))) (pw_or1 (pt_cmpR op_gt (pv 1) (pe_callB call_len_seq (by rfl) T.b_len PySem.boot_len (pa_cons (pe_fld (pv 0) rfl) pa_nil)) (nomark _)))).pt (pss_one (ps_ret (pe_lst (pa_cons (pe_glob (v := .int (-1)) (by rfl) g1 ⟨_, rfl⟩) pa_nil)))) pss_nil)
      (pss_cons (ps_try (C := a.c_MayNotBeCut) (fun pn E => pss_one (ps_set (i := 3) nd rfl (Or.inl rfl) (pe_call (E := E) (ok_follow_breaks T) hr4 (by rfl) T.g_follow_breaks T.F_follow_breaks.kp T.B_follow_breaks .nil pass_tr (pa_cons (pe_meth0 (pv 0) T.cl_Season T.me_Season_courses (ok_Season_courses T) hr T.B_Season_courses .nil pass0) (pa_cons (pe_meth0 (pv 0) T.cl_Season T.me_Season_ahead (ok_Season_ahead T) hr4 T.B_Season_ahead .nil pass0) (pa_cons (pv 2) pa_nil))))))
        (fun e => pss_one (ps_ret (pe_lst (pa_cons (pe_glob (v := .int (-6)) (by rfl) g2 ⟨_, rfl⟩) pa_nil)))) (by rfl) T.g_MayNotBeCut T.e_MayNotBeCut rfl rfl (fun _ => PassesOwnAt.never))
      (pss_one (ps_ret (pe_op op_cat (pe_lst (pa_cons (pe_fld (pe_ix ix_list (pv 3) (pv 1) (fun _ _ => rfl)) rfl) pa_nil))
        (pe_call (ok_behind T) hr1 (by rfl) T.g_behind_lengths T.F_behind_lengths.kp T.B_behind_lengths .nil pass0 (pa_cons (pe_lst (pa_cons (pe_fld (pe_ix ix_list (pv 3) (pv 1) (fun _ _ => rfl)) rfl) (pa_cons (pe_meth0 (pe_ix ix_list (pv 3) (pv 1) (fun _ _ => rfl)) T.cl_Evening T.me_Evening_could_burn (ok_could T) hr2 T.B_Evening_could_burn .nil pass0) pa_nil))) pa_nil)))))), ?_⟩
    obtain ⟨dx, ps, pw, wd, ds, h1, h2, h3, h4, h5, h6, h7, h8, h9, o1, o2⟩ := id hs.ex
    have est : Uw01.step s (.evening kk (breaksIn row)) = if breaksOk s (breaksIn row) = false ∨ s.days.length < kk then (s, Uw01.ok (-1)) else (s, match s.days_ (breaksIn row) with
      | some l => let m := last s.start (l.take kk)
        ⟨(m.lost : Nat), [m.burning, (List.range m.places.length).filter fun i => slow m.places i != 0 && !m.burning.contains i]⟩
      | none => Uw01.ok (-6)) := rfl
    rw [est] at k
    refine ⟨_, rfl, p, dx, _, rfl, h1, rfl, _, rfl, p, pd, q, O, s, row, rfl, hs, hq, by omega, fun H1 s1 => ⟨_, rfl, ?_⟩⟩
    cases hb : breaksOk s (breaksIn row) with
    | false =>
      rw [if_pos (.inl hb)] at k
      exact iteT (iteT ⟨(by show 1 ≤ sizeLine; decide), fun r nr => k _ r (s1.trans (same_upd nr)) (s1.free nr) (by rw [upd_same]; rfl)⟩)
    | true =>
      obtain ⟨b1, b2⟩ := breaks_in hb
      refine iteF ⟨_, rfl, _, rfl, p, _, dx, _, _, rfl, s1 _ _ h1, T.cl_Season, T.n_Season_days, rfl, pd, _, rfl, .inl (SqL.of (s1 _ _ h5)), _, _, rfl, rfl, _, rfl, iteB (fun c => ?_) (fun c => ?_)⟩
      · have c' : s.days.length < kk := by
          have := of_decide_eq_true c
          rw [List.length_map, h8] at this
          omega
        rw [if_pos (.inr c')] at k
        exact ⟨(by show 1 ≤ sizeLine; decide), fun r nr => k _ r (s1.trans (same_upd nr)) (s1.free nr) (by rw [upd_same]; rfl)⟩
      · have c' : ¬ s.days.length < kk := by
          have := of_decide_eq_false c
          rw [List.length_map, h8] at this
          omega
        rw [if_neg (by rintro (z | z); rw [hb] at z; cases z; exact c' z)] at k
        refine ⟨_, rfl, p, dx, _, rfl, s1 _ _ h1, rfl, p, pd, O, s, rfl, hs.same s1, g, fun H2 pc s2 hC => ?_⟩
        have k2 := s1.trans s2
        refine ⟨_, rfl, p, dx, _, rfl, k2 _ _ h1, rfl, p, pd, O, s, rfl, hs.same k2, g, fun H3 pe s3 hE => ?_⟩
        have k3 := k2.trans s3
        refine ⟨_, rfl, pc, pe, q, s, breaksIn row, s.start, rfl, hC.mono s3, hE, by rw [breaks_out]; exact k3 _ _ hq, b1, b2, g, MOk.start _, fun l hfl H4 pev es s4 hpev hEv => ?_, fun hn H4 s4 => ?_⟩
        · have k4 := k3.trans s4
          have hfl' : s.days_ (breaksIn row) = some l := hfl
          rw [hfl'] at k
          have ll : l.length = s.days.length := follow_len _ _ _ _ _ hfl
          have few := g.few
          have n16 := g.n16
          have lok := follow_ok (P := s.places) g.w1 _ _ _ _ (MOk.start s.places) hfl
          have hkl : kk ≤ l.length := by omega
          have mok := last_ok (MOk.start s.places) lok kk hkl
          obtain ⟨rb, e1, eEv⟩ := evs_at (hE.mono s4) hEv hkl
          change ∀ H' r, Same H H' → H r = none → H' r = some (HO.lst ((Uw01Neutral.out ⟨((last s.start (l.take kk)).lost : Nat), [(last s.start (l.take kk)).burning, (List.range (last s.start (l.take kk)).places.length).filter fun i => slow (last s.start (l.take kk)).places i != 0 && !(last s.start (l.take kk)).burning.contains i]⟩).map V.int)) → Q (.ref r) H' at k
          rw [← could_eq] at k
          have mok' : MOk s.places (last s.start (l.take kk)) := mok
          generalize last s.start (l.take kk) = m at k eEv mok'
          obtain ⟨dxe, pbe, pfe, e2, e3, e4⟩ := id eEv
          have eix : ((pe :: es).map V.ref)[kk]? = some (V.ref rb) := by
            rw [List.getElem?_map, e1]
            rfl
          refine ⟨_, rfl, _, rfl, pev, _, _, _, rfl, rfl, SqL.of hpev, at_of (j := kk) rfl eix, rb, _, dxe, _, _, rfl, e2, T.cl_Evening, T.n_Evening_lost, rfl, (by show 1 ≤ sizeLine; decide), fun l1 n1 => ?_⟩
          have s5 := same_upd (o := .lst [V.int ((m.lost : Nat) : Int)]) n1
          refine ⟨_, rfl, _, rfl, pev, _, _, _, rfl, rfl, SqL.of (s5 _ _ hpev), at_of (j := kk) rfl eix, rb, _, dxe, _, _, rfl, s5 _ _ e2, T.cl_Evening, T.n_Evening_fire, rfl, ?_⟩
          refine ⟨_, rfl, _, rfl, pev, _, _, _, rfl, rfl, SqL.of (s5 _ _ hpev), at_of (j := kk) rfl eix, rb, dxe, _, rfl, s5 _ _ e2, rfl, rb, m, rfl, eEv.mono s5, by rw [mok'.len]; exact n16, fun l2 n2 => ?_⟩
          have s6 := same_upd (o := .lst (nv (couldL m))) n2
          refine ⟨(by show 2 ≤ sizeLine; decide), fun l3 n3 => ?_⟩
          have s7 := same_upd (o := .lst [V.ref pfe, V.ref l2]) n3
          have k57 := (s5.trans s6).trans s7
          have bl := mok'.few
          have cl : (couldL m).length ≤ 16 := by
            unfold couldL
            refine Nat.le_trans (List.length_filter_le _ _) ?_
            rw [List.length_range, mok'.len]
            exact n16
          refine ⟨l3, _, [m.burning, couldL m], rfl, SqL.of upd_same, rfl, fun i y hy => ?_, fun x hx => ?_, (by show 2 ≤ 100; decide), fun H8 r s8 hr8 => ?_⟩
          · match i, hy with
            | 0, hy => exact ⟨pfe, m.burning, rfl, (Option.some.inj hy).symm, k57 _ _ e4⟩
            | 1, hy => exact ⟨l2, couldL m, rfl, (Option.some.inj hy).symm, s7 _ _ upd_same⟩
            | i + 2, hy => simp at hy
          · rcases List.mem_cons.mp hx with rfl | hx
            · omega
            · rw [List.mem_singleton.mp hx]
              omega
          · have fl : (flatL [m.burning, couldL m]).length ≤ 60 := by
              unfold flatL
              simp only [List.flatMap_cons, List.flatMap_nil, List.length_append, List.length_cons, List.length_nil]
              omega
            refine ⟨l1, r, _, _, rfl, rfl, s8 _ _ (s7 _ _ (s6 _ _ upd_same)), hr8, by rw [nv_len, sizeLine_eq]; show 1 + _ ≤ _; omega, fun fin nfin => k _ fin (((k4.trans k57).trans s8).trans (same_upd nfin)) (((k4.trans k57).trans s8).free nfin) ?_⟩
            rw [upd_same, out_nv]
        · have hn' : s.days_ (breaksIn row) = none := hn
          rw [hn'] at k
          intro σ'
          have k4 := k3.trans s4
          exact ⟨(by show 1 ≤ sizeLine; decide), fun r nr => k _ r (k4.trans (same_upd nr)) (k4.free nr) (by rw [upd_same]; rfl)⟩
def sp_Season_best (a : Ads) : Sp := fun vs H Q _ => ∃ (p pd : Addr) (O : Addr → Prop) (s : Season), vs = [.ref p] ∧ SeasonAt a H p pd O s ∧ Good s ∧
  ∀ H' r, Same H H' → H r = none → H' r = some (.lst ((Uw01Neutral.out (Uw01.step s .best).2).map V.int)) → Q (.ref r) H'
theorem ok_Season_best (T : Txt K mg a) : FnOk P w K mg base CX0 7 a.f_Season_best a.d_Season_best ["self"] (sp_Season_best a) := by
  refine T.F_Season_best.ok sc_Season_best (fun vs H Q E h => ?_) (fun cdv A outer s0 H vs Q E hr h => ?_)
  · obtain ⟨p, pd, O, s, rfl, _⟩ := h
    rfl
  · obtain ⟨p, pd, O, s, rfl, hs, g, k⟩ := h
    have nd := sc_Season_best.nd
    have hr1 := hr.mono (j := 1) (by decide)
    have hr4 := hr.mono (j := 4) (by decide)
    have hr5 := hr.mono (j := 5) (by decide)
    refine ⟨_, pss_cons (ps_set (i := 1) nd rfl (Or.inl rfl) (pe_call (ok_best_rows T) hr (by rfl) T.g_best_rows T.F_best_rows.kp T.B_best_rows .nil pass0 (pa_cons (pe_meth0 (pv 0) T.cl_Season T.me_Season_courses (ok_Season_courses T) hr5 T.B_Season_courses .nil pass0) (pa_cons (pe_meth0 (pv 0) T.cl_Season T.me_Season_ahead (ok_Season_ahead T) hr4 T.B_Season_ahead .nil pass0) pa_nil))))
      (pss_one (ps_ret (pe_op op_cat (pe_lst (pa_cons (pe_fld (pe_fld (pe_ix ix_list (pv 1) pe_int (fun _ _ => rfl)) rfl) rfl) pa_nil))
        (pe_call (ok_behind T) hr1 (by rfl) T.g_behind_lengths T.F_behind_lengths.kp T.B_behind_lengths .nil pass0 (pa_cons (pe_lst (pa_cons (pe_lst (pa_cons (pe_callB call_len_seq (by rfl) T.b_len PySem.boot_len (pa_cons (pv 1) pa_nil)) pa_nil)) (pa_cons (pe_fld (pe_ix ix_list (pv 1) pe_int (fun _ _ => rfl)) rfl) pa_nil))) pa_nil))))), ?_⟩
    obtain ⟨dx, ps, pw, wd, ds, h1, _⟩ := id hs.ex
    refine ⟨_, rfl, p, dx, _, rfl, h1, rfl, p, pd, O, s, rfl, hs, g, fun H2 pc s2 hC => ?_⟩
    refine ⟨_, rfl, p, dx, _, rfl, s2 _ _ h1, rfl, p, pd, O, s, rfl, hs.same s2, g, fun H3 pe s3 hE => ?_⟩
    have k3 := s2.trans s3
    refine ⟨pc, pe, s, s.start, rfl, hC.mono s3, hE, g, MOk.start _, fun H4 pr v r t s4 hR hv hbest hrl => ?_⟩
    have k4 := k3.trans s4
    have est : (Uw01.step s .best).2 = ⟨(v : Nat), [[t.length + 1], r.1.map breakOut]⟩ := by
      have e : s.best = ⟨v, t.length + 1, r.1⟩ := hbest
      show (⟨(s.best.lost : Nat), [[s.best.many], s.best.breaks.map breakOut]⟩ : Uw01.Ans) = _
      rw [e]
    rw [est] at k
    obtain ⟨ys, r1, r2, r3⟩ := hR
    obtain ⟨y0, hy0⟩ : ∃ y, ys[0]? = some y := ⟨_, List.getElem?_eq_getElem (by rw [r2]; exact Nat.succ_pos _)⟩
    obtain ⟨q', r', u1, rfl, dxr, pb, pl, u2, u3, dxe, p1, p2, u4, u5, u6⟩ := r3 0 y0 hy0
    cases u1
    rw [hv] at u4
    refine ⟨_, rfl, pr, _, _, _, rfl, rfl, SqL.of r1, at_of (j := 0) rfl hy0, q', _, dxr, _, _, rfl, u2, T.cl_Row, T.n_Row_last, rfl, pl, _, dxe, _, _, rfl, u4, T.cl_Evening, T.n_Evening_lost, rfl, (by show 1 ≤ sizeLine; decide), fun l1 n1 => ?_⟩
    have s5 := same_upd (o := .lst [V.int ((v : Nat) : Int)]) n1
    refine ⟨_, rfl, pr, _, rfl, .inl (SqL.of (s5 _ _ r1)), (by show 1 ≤ sizeLine; decide), fun l2 n2 => ?_⟩
    have el : (V.int ((ys.length : Nat) : Int)) = V.int (((t.length + 1 : Nat)) : Int) := by rw [r2]; rfl
    rw [el]
    have s6 := same_upd (o := .lst [V.int ((t.length + 1 : Nat) : Int)]) n2
    have k56 := s5.trans s6
    refine ⟨_, rfl, pr, _, _, _, rfl, rfl, SqL.of (k56 _ _ r1), at_of (j := 0) rfl hy0, q', _, dxr, _, _, rfl, k56 _ _ u2, T.cl_Row, T.n_Row_breaks, rfl, (by show 2 ≤ sizeLine; decide), fun l3 n3 => ?_⟩
    have s7 := same_upd (o := .lst [V.ref l2, V.ref pb]) n3
    have k57 := k56.trans s7
    refine ⟨l3, _, [[t.length + 1], r.1.map breakOut], rfl, SqL.of upd_same, rfl, fun i y hy => ?_, fun x hx => ?_, (by show 2 ≤ 100; decide), fun H8 rr s8 hr8 => ?_⟩
    · match i, hy with
      | 0, hy => exact ⟨l2, [t.length + 1], rfl, (Option.some.inj hy).symm, s7 _ _ upd_same⟩
      | 1, hy => exact ⟨pb, r.1.map breakOut, rfl, (Option.some.inj hy).symm, k57 _ _ u3⟩
      | i + 2, hy => simp at hy
    · rcases List.mem_cons.mp hx with rfl | hx
      · show 1 ≤ 100
        decide
      · rw [List.mem_singleton.mp hx, List.length_map]
        omega
    · have fl : (flatL [[t.length + 1], r.1.map breakOut]).length ≤ 60 := by
        unfold flatL
        simp only [List.flatMap_cons, List.flatMap_nil, List.length_append, List.length_cons, List.length_nil, List.length_map]
        omega
      refine ⟨l1, rr, _, _, rfl, rfl, s8 _ _ (s7 _ _ (s6 _ _ upd_same)), hr8, by rw [nv_len, sizeLine_eq]; show 1 + _ ≤ _; omega, fun fin nfin => k _ fin (((k4.trans k57).trans s8).trans (same_upd nfin)) (((k4.trans k57).trans s8).free nfin) ?_⟩
      rw [upd_same, out_nv]
end
end Fs

set_option Elab.async false
set_option maxRecDepth 100000
set_option maxHeartbeats 2000000
namespace Fs
open PySem PySem.Spec PyProof.Rows L2
open PySem.W (Codec)
/-! what the program's steps are in the specification's words -/
theorem plcS_eq : ∀ l : List Nat, plcS l = plc l
  | [] => rfl
  | [_] => rfl
  | a :: b :: l => by
    show (⟨a, b⟩ : Sw96.Place) :: plcS l = ⟨a, b⟩ :: plc l
    rw [plcS_eq l]
theorem between_ni (lo hi : Nat) (l : List Nat) : between (lo : Int) (hi : Int) (ni l) = l.all fun n => decide (lo ≤ n) && decide (n ≤ hi) := by
  unfold between ni
  rw [List.all_map]
  refine congrArg (fun f => l.all f) (funext fun n => ?_)
  show (decide ((lo : Int) ≤ (n : Int)) && decide ((n : Int) ≤ (hi : Int))) = _
  rw [show decide ((lo : Int) ≤ (n : Int)) = decide (lo ≤ n) from decide_eq_decide.mpr (by omega), show decide ((n : Int) ≤ (hi : Int)) = decide (n ≤ hi) from decide_eq_decide.mpr (by omega)]
theorem plc_all : ∀ l : List Nat, l.length % 2 = 0 → ((plc l).all fun x => decide (x.slow ≤ 60) && decide (x.worth ≤ 1000)) = (between 0 60 (ni (evens l)) && between 0 1000 (ni (odds l)))
  | [], _ => rfl
  | [_], h => by simp at h
  | a :: b :: l, h => by
    have ih := plc_all l (by simp only [List.length_cons] at h; omega)
    rw [show (0 : Int) = ((0 : Nat) : Int) from rfl, show (60 : Int) = ((60 : Nat) : Int) from rfl, show (1000 : Int) = ((1000 : Nat) : Int) from rfl, between_ni, between_ni] at ih ⊢
    show ((decide (a ≤ 60) && decide (b ≤ 1000)) && (plc l).all _) = ((decide (0 ≤ a) && decide (a ≤ 60)) && (evens l).all _ && ((decide (0 ≤ b) && decide (b ≤ 1000)) && (odds l).all _))
    rw [ih, decide_eq_true (Nat.zero_le a), decide_eq_true (Nat.zero_le b)]
    cases decide (a ≤ 60) <;> cases decide (b ≤ 1000) <;> simp
theorem full_iff (wd n : Nat) : fullRows (wd : Int) (n : Int) = true ↔ ¬ (wd < 1 ∨ 4 < wd ∨ n = 0 ∨ n % wd ≠ 0 ∨ 4 * wd < n) := by
  unfold fullRows
  simp only [Bool.and_eq_true, decide_eq_true_eq]
  constructor
  · rintro ⟨⟨h1, h2⟩, h3, h4, h5⟩
    have w1 : 1 ≤ wd := by omega
    have w4 : wd ≤ 4 := by omega
    have e : wd = 1 ∨ wd = 2 ∨ wd = 3 ∨ wd = 4 := by omega
    rcases e with e | e | e | e <;> subst e <;> omega
  · intro h
    have w1 : 1 ≤ wd := by omega
    have w4 : wd ≤ 4 := by omega
    have e : wd = 1 ∨ wd = 2 ∨ wd = 3 ∨ wd = 4 := by omega
    rcases e with e | e | e | e <;> subst e <;> omega
theorem begins_spec (s : Uw01.Season) (wd : Nat) (l : List Nat) (h : l.length % 2 = 0) : Uw01.step s (.begins wd (plcS l)) = ((beginsStep s wd l).1, Uw01.ok (beginsStep s wd l).2) := by
  obtain ⟨v1, v2, v3⟩ := evens_plc l h
  have hl : (plc l).length = l.length / 2 := v3
  have hf : forestOk (wd : Int) (ni l) = (fullRows (wd : Int) ((plc l).length : Int) && ((plc l).all fun x => decide (x.slow ≤ 60) && decide (x.worth ≤ 1000))) := by
    unfold forestOk
    have e1 : ((ni l).length : Int) = (l.length : Int) := by unfold ni; rw [List.length_map]
    have e2 : ((ni l).length : Int) / 2 = ((plc l).length : Int) := by rw [e1, hl]; omega
    have e3 : evens (ni l) = ni (evens l) := evens_map _ _
    have e4 : odds (ni l) = ni (odds l) := odds_map _ _
    rw [plc_all l h, e2, e1, e3, e4, decide_eq_true (show (l.length : Int) % 2 = 0 by omega), Bool.true_and]
  have hc : (wd < 1 ∨ Uw01.SIDE < wd ∨ plc l = [] ∨ (plc l).length % wd ≠ 0 ∨ Uw01.SIDE * wd < (plc l).length ∨ ((plc l).all fun x => decide (x.slow ≤ Sw96.SLOW) && decide (x.worth ≤ Sw96.WORTH)) = false) ↔ ¬ forestOk (wd : Int) (ni l) = true := by
    rw [hf, Bool.and_eq_true, full_iff]
    have e5 : plc l = [] ↔ (plc l).length = 0 := List.length_eq_zero_iff.symm
    rw [e5]
    show (wd < 1 ∨ 4 < wd ∨ (plc l).length = 0 ∨ (plc l).length % wd ≠ 0 ∨ 4 * wd < (plc l).length ∨ ((plc l).all fun x => decide (x.slow ≤ 60) && decide (x.worth ≤ 1000)) = false) ↔ _
    cases ((plc l).all fun x => decide (x.slow ≤ 60) && decide (x.worth ≤ 1000)) with
    | false => simp
    | true => simp only [Bool.true_eq_false, or_false, and_true, Classical.not_not]
  rw [plcS_eq]
  show (if (wd < 1 ∨ Uw01.SIDE < wd ∨ plc l = [] ∨ (plc l).length % wd ≠ 0 ∨ Uw01.SIDE * wd < (plc l).length ∨ ((plc l).all fun x => decide (x.slow ≤ Sw96.SLOW) && decide (x.worth ≤ Sw96.WORTH)) = false) then (s, Uw01.ok (-1)) else (⟨wd, plc l, []⟩, Uw01.ok ((plc l).length : Nat))) = _
  unfold beginsStep
  by_cases c : forestOk (wd : Int) (ni l) = true
  · rw [if_neg (fun z => hc.mp z c), if_pos c, if_pos c]
  · rw [if_pos (hc.mpr c), if_neg c, if_neg c]
theorem rising_ni : ∀ l : List Nat, risingI (ni l) = Uw01.rising l
  | [] => rfl
  | [_] => rfl
  | a :: b :: l => by
    show (decide ((a : Int) < (b : Int)) && risingI (ni (b :: l))) = (decide (a < b) && Uw01.rising (b :: l))
    rw [rising_ni (b :: l), show decide ((a : Int) < (b : Int)) = decide (a < b) from decide_eq_decide.mpr (by omega)]
theorem day_spec (s : Uw01.Season) (d : Uw01.Day) (h : d.wind.length = 4) : Uw01.step s (.day d) = ((dayStep s d).1, Uw01.ok (dayStep s d).2) := by
  have hd : Uw01.dayOk s d = dayTold (s.places.length : Int) d := by
    unfold Uw01.dayOk dayTold
    rw [h, rising_ni]
    have e1 : between 1 9 (ni d.wind) = d.wind.all (fun x => decide (1 ≤ x) && decide (x ≤ Sw96.WIND)) := between_ni 1 9 d.wind
    have e2 : between 0 ((s.places.length : Int) - 1) (ni d.strikes) = d.strikes.all fun i => decide (i < s.places.length) := by
      unfold between ni
      rw [List.all_map]
      refine congrArg (fun f => d.strikes.all f) (funext fun n => ?_)
      show (decide ((0 : Int) ≤ (n : Int)) && decide ((n : Int) ≤ (s.places.length : Int) - 1)) = _
      rw [decide_eq_true (show (0 : Int) ≤ (n : Int) by omega), Bool.true_and]
      exact decide_eq_decide.mpr (by omega)
    have e3 : decide ((d.minutes : Int) ≤ 100000) = decide (d.minutes ≤ Sw96.TIME) := decide_eq_decide.mpr (by show _ ↔ d.minutes ≤ 100000; omega)
    rw [e1, e2, e3]
    cases d.wind.all (fun x => decide (1 ≤ x) && decide (x ≤ Sw96.WIND)) <;> cases decide (d.minutes ≤ Sw96.TIME) <;> cases Uw01.rising d.strikes <;> cases (d.strikes.all fun i => decide (i < s.places.length)) <;> rfl
  show (if Uw01.dayOk s d = false then (s, Uw01.ok (-1)) else if Uw01.DAYS ≤ s.days.length then (s, Uw01.ok (-5)) else ({ s with days := s.days ++ [d] }, Uw01.ok (s.days.length + 1 : Nat))) = _
  unfold dayStep
  rw [hd]
  cases dayTold (s.places.length : Int) d with
  | false => rfl
  | true =>
    rw [if_neg (by decide), if_pos rfl]
    by_cases c : 3 ≤ s.days.length
    · rw [if_pos (show Uw01.DAYS ≤ s.days.length from c), if_pos c]
    · rw [if_neg (show ¬ Uw01.DAYS ≤ s.days.length from c), if_neg c]
      rfl
theorem drop_spec (s : Uw01.Season) : Uw01.step s .drop = ((dropStep s).1, Uw01.ok (dropStep s).2) := by
  show (if s.days = [] then (s, Uw01.ok (-4)) else ({ s with days := s.days.dropLast }, Uw01.ok (s.days.length - 1 : Nat))) = _
  unfold dropStep
  by_cases c : s.days = []
  · rw [if_pos c, if_pos c]
  · rw [if_neg c, if_neg c]
theorem out_ok (v : Int) : Uw01Neutral.out (Uw01.ok v) = [v] := rfl
end Fs

set_option Elab.async false
set_option maxRecDepth 100000
set_option maxHeartbeats 2000000
namespace Fs
open PySem PySem.Spec PyProof.Rows L2
open PySem.W (Codec)
section
variable {P : Program} {w : World} {K : PySem.W.Frag} {mg : Str → Option Value} {base : Heap} {a : Ads}
theorem Aft.but {H H1 : Hp} {ps pd pr dxr pc : Addr} {O : Addr → Prop} {s' : Uw01.Season} {ans : List Int} {i' : Nat} {Q : VK} (k : Aft a H ps pd pr dxr pc O s' ans i' Q) (b : But pr H H1) (hr : ∃ o, H1 pr = some o) : Aft a H1 ps pd pr dxr pc O s' ans i' Q := by
  intro H' q pd' O' h1 h2 h3 hO h4 h5 h6 h7
  refine k H' q pd' O' (b.none hr h1) h2 ?_ ?_ h4 h5 h6 (fun c o e n1 n2 n3 => h7 c o (b c o e n3) n1 n2 n3)
  · rcases h3 with e | e
    · exact .inl e
    · exact .inr (b.none hr e)
  · intro c oc
    rcases hO c oc with e | e
    · exact .inl e
    · exact .inr (b.none hr e)
theorem step_follow (s : Uw01.Season) (b : List (Option Nat)) : (Uw01.step s (.follow b)).1 = s := by
  show (if Uw01.breaksOk s b = false then (s, Uw01.ok (-1)) else (s, _)).1 = s
  split <;> rfl
theorem step_evening (s : Uw01.Season) (k : Nat) (b : List (Option Nat)) : (Uw01.step s (.evening k b)).1 = s := by
  show (if Uw01.breaksOk s b = false ∨ s.days.length < k then (s, Uw01.ok (-1)) else (s, _)).1 = s
  split <;> rfl
def sp_answer_evening (K : PySem.W.Frag) (a : Ads) : Sp := fun vs H Q _ => ∃ (ps pd pr dxr pc : Addr) (O : Addr → Prop) (cs : List Nat) (i : Nat) (s : Uw01.Season) (kk : Nat) (row t : List Nat), vs = [.ref ps, .ref pr] ∧ SeasonAt a H ps pd O s ∧ H pr = some (.ins a.c_Reader dxr (fReader pc (i : Int))) ∧ Arg K H pc (nv cs) ∧
  cs.drop i = [kk, row.length] ++ (row ++ t) ∧ row.length ≤ 16 ∧ Good s ∧ Aft a H ps pd pr dxr pc O s (Uw01Neutral.out (Uw01.step s (.evening kk (Uw01Neutral.breaksIn row))).2) (i + 2 + row.length) Q
theorem ok_answer_evening (T : Txt K mg a) : FnOk P w K mg base CX0 7 a.f_answer_evening a.d_answer_evening ["season", "reader"] (sp_answer_evening K a) := by
  refine T.F_answer_evening.ok sc_answer_evening (fun vs H Q E h => ?_) (fun cdv A outer s H vs Q E hr h => ?_)
  · obtain ⟨ps, pd, pr, dxr, pc, O, cs, i, s, kk, row, t, rfl, _⟩ := h
    rfl
  · obtain ⟨ps, pd, pr, dxr, pc, O, cs, i, s, kk, row, t, rfl, hs, hp, hA, hc, hl, g, k⟩ := h
    have hr2 := hr.mono (j := 2) (by decide)
    have hr3 := hr.mono (j := 3) (by decide)
    refine ⟨_, pss_cons (ps_set (i := 2) sc_answer_evening.nd rfl (Or.inl rfl) (pe_meth0 (pv 1) T.cl_Reader T.me_Reader_number (ok_Reader_number T) hr2 T.B_Reader_number .nil pass0))
      (pss_cons (ps_set (i := 3) sc_answer_evening.nd rfl (Or.inl rfl) (pe_meth0 (pv 1) T.cl_Reader T.me_Reader_row (ok_Reader_row T) hr3 T.B_Reader_row .nil pass0))
      (pss_one (ps_ret (pe_meth (pv 0) T.cl_Season T.me_Season_evening (ok_Season_evening T) hr T.B_Season_evening .nil pass0 (pa_cons (pv 2) (pa_cons (pv 3) pa_nil)))))), ?_⟩
    have hlen := drop_len hc (by simp)
    have e0 : (nv cs)[i]? = some (.int (kk : Int)) := drop_get (k := 0) hc rfl
    have e1 : (nv cs)[i + 1]? = some (.int (row.length : Int)) := drop_get (k := 1) hc rfl
    refine ⟨_, rfl, pr, dxr, _, rfl, hp, rfl, pr, dxr, pc, nv cs, i, _, rfl, hp, hA.seq, e0, fun H1 h1 b1 => ?_⟩
    have hA1 := hA.kept (b1.frz hp (by intro _ _ z; cases z))
    have hs1 := hs.reader hp b1
    refine ⟨_, rfl, pr, dxr, _, rfl, h1, rfl, pr, dxr, pc, nv cs, i + 1, row.length, rfl, h1, (fun H' b' => (hA1.kept (b'.frz h1 (by intro _ _ z; cases z))).seq), e1, (by rw [nv_len, hlen]; simp; omega), fun H2 q nq hq h2 b2 => ?_⟩
    have hs2 := hs1.reader h1 b2
    have hq' : H2 q = some (.lst (nv row)) := by
      rw [hq]
      have := drop_take (k := 2) hc rfl
      rw [show i + 1 + 1 = i + 2 from rfl, this]
    obtain ⟨dx, _, _, _, hps⟩ := hs2.obj
    obtain ⟨ds2, hpd2⟩ := hs2.pdlst
    refine ⟨_, rfl, ps, dx, _, rfl, hps, rfl, _, rfl, _, rfl, ps, pd, q, O, s, kk, row, rfl, hs2, hq', hl, g, fun H3 r s3 nr hr3' => ?_⟩
    exact ((k.but b1 ⟨_, h1⟩).but b2 ⟨_, h2⟩) H3 r pd O nr hr3' (.inl rfl) (fun b z => .inl z) (ne_of_none hpd2 nr) (hs2.same s3) (s3 _ _ h2) (fun b o e _ _ _ => s3 _ _ e)
def sp_answer_call (K : PySem.W.Frag) (a : Ads) : Sp := fun vs H Q _ => ∃ (ps pd pr dxr pc : Addr) (O : Addr → Prop) (cs : List Nat) (i : Nat) (s : Uw01.Season) (x : Uw01.Call) (t : List Nat), vs = [.ref ps, .ref pr] ∧ SeasonAt a H ps pd O s ∧ H pr = some (.ins a.c_Reader dxr (fReader pc (i : Int))) ∧ Arg K H pc (nv cs) ∧
  Reads (cs.drop i) x t ∧ Good s ∧ ∀ i', i < i' → cs.drop i' = t → Aft a H ps pd pr dxr pc O (Uw01.step s x).1 (Uw01Neutral.out (Uw01.step s x).2) i' Q
theorem ok_answer_call (T : Txt K mg a) : FnOk P w K mg base CX0 8 a.f_answer_call a.d_answer_call ["season", "reader"] (sp_answer_call K a) := by
  refine T.F_answer_call.ok sc_answer_call (fun vs H Q E h => ?_) (fun cdv A outer s H vs Q E hr h => ?_)
  · obtain ⟨ps, pd, pr, dxr, pc, O, cs, i, s, x, t, rfl, _⟩ := h
    rfl
  · obtain ⟨ps, pd, pr, dxr, pc, O, cs, i, s, x, t, rfl, hs, hp, hA, hR, g, k⟩ := h
    obtain ⟨t1, g1⟩ := T.k_BEGINS
    obtain ⟨t2, g2⟩ := T.k_DAY
    obtain ⟨t3, g3⟩ := T.k_DROP
    obtain ⟨t4, g4⟩ := T.k_FOLLOW
    obtain ⟨t5, g5⟩ := T.k_BEST
    obtain ⟨t6, g6⟩ := T.k_EVENING
    have hr2 := hr.mono (j := 2) (by decide)
    have hr1 := hr.mono (j := 1) (by decide)
    have hr3 := hr.mono (j := 3) (by decide)
    have hr4 := hr.mono (j := 4) (by decide)
    have hr6 := hr.mono (j := 6) (by decide)
    refine ⟨_, pss_cons (ps_set (i := 2) sc_answer_call.nd rfl (Or.inl rfl) (pe_meth0 (pv 1) T.cl_Reader T.me_Reader_number (ok_Reader_number T) hr2 T.B_Reader_number .nil pass0))
      (pss_cons (ps_if (pt_cmpR op_eq (pv 2) (pe_glob (v := .int 0) (by rfl) g1 ⟨_, rfl⟩) (nomark _)) (pss_one (ps_ret (pe_call (ok_answer_begins T) hr4 (by rfl) T.g_answer_begins T.F_answer_begins.kp T.B_answer_begins .nil pass0 (pa_cons (pv 0) (pa_cons (pv 1) pa_nil))))) pss_nil)
      (pss_cons (ps_if (pt_cmpR op_eq (pv 2) (pe_glob (v := .int 1) (by rfl) g2 ⟨_, rfl⟩) (nomark _)) (pss_one (ps_ret (pe_call (ok_answer_day T) hr4 (by rfl) T.g_answer_day T.F_answer_day.kp T.B_answer_day .nil pass0 (pa_cons (pv 0) (pa_cons (pv 1) pa_nil))))) pss_nil)
      (pss_cons (ps_if (pt_cmpR op_eq (pv 2) (pe_glob (v := .int 2) (by rfl) g3 ⟨_, rfl⟩) (nomark _)) (pss_one (ps_ret (pe_lst (pa_cons (pe_meth0 (pv 0) T.cl_Season T.me_Season_drop (ok_Season_drop T) hr1 T.B_Season_drop .nil pass0) pa_nil)))) pss_nil)
      (pss_cons (ps_if (pt_cmpR op_eq (pv 2) (pe_glob (v := .int 3) (by rfl) g4 ⟨_, rfl⟩) (nomark _)) (pss_one (ps_ret (pe_meth (pv 0) T.cl_Season T.me_Season_follow (ok_Season_follow T) hr6 T.B_Season_follow .nil pass0 (pa_cons (pe_meth0 (pv 1) T.cl_Reader T.me_Reader_row (ok_Reader_row T) hr3 T.B_Reader_row .nil pass0) pa_nil)))) pss_nil)
      (pss_cons (ps_if (pt_cmpR op_eq (pv 2) (pe_glob (v := .int 4) (by rfl) g5 ⟨_, rfl⟩) (nomark _)) (pss_one (ps_ret (pe_meth0 (pv 0) T.cl_Season T.me_Season_best (ok_Season_best T) hr T.B_Season_best .nil pass0))) pss_nil)
      (pss_cons (ps_if (pt_cmpR op_eq (pv 2) (pe_glob (v := .int 5) (by rfl) g6 ⟨_, rfl⟩) (nomark _)) (pss_one (ps_ret (pe_call (ok_answer_evening T) hr (by rfl) T.g_answer_evening T.F_answer_evening.kp T.B_answer_evening .nil pass0 (pa_cons (pv 0) (pa_cons (pv 1) pa_nil))))) pss_nil)
      pss_never)))))), ?_⟩
    generalize hcs : cs.drop i = R at hR
    have key : ∀ (n : Nat) (R' : List Nat), R = n :: R' → ∀ (Q' : V → Hp → Prop), (∀ H1, H1 pr = some (.ins a.c_Reader dxr (fReader pc ((i + 1 : Nat) : Int))) → But pr H H1 → Q' (.int (n : Int)) H1) → sp_Reader_number K a [V.ref pr] H Q' E0 := by
      intro n R' e Q' hQ
      subst e
      exact ⟨pr, dxr, pc, nv cs, i, _, rfl, hp, hA.seq, drop_get (k := 0) hcs rfl, hQ⟩
    have dr : ∀ (n : Nat) (R' : List Nat), R = n :: R' → cs.drop (i + 1) = R' := fun n R' e => by
      rw [← List.drop_drop, hcs, e]
      rfl
    refine ⟨_, rfl, pr, dxr, _, rfl, hp, rfl, ?_⟩
    cases hR with
    | begins wd row _ h2 h3 =>
      refine key 0 _ rfl _ (fun H1 h1 b1 => ?_)
      have hA1 := hA.kept (b1.frz hp (by intro _ _ z; cases z))
      refine ⟨_, rfl, rfl, _, rfl, iteT ⟨_, rfl, _, rfl, ps, pd, pr, dxr, pc, O, cs, i + 1, s, wd, row, t, rfl, hs.reader hp b1, h1, hA1, dr _ _ rfl, (by omega), h2, ?_⟩⟩
      have k2 := k (i + 1 + 2 + row.length) (by omega) (by
        rw [show i + 1 + 2 + row.length = i + (3 + row.length) by omega, ← List.drop_drop, hcs, Nat.add_comm 3 row.length]
        show (row ++ t).drop row.length = t
        exact List.drop_left)
      rw [begins_spec s wd row h2] at k2
      exact k2.but b1 ⟨_, h1⟩
    | day w1 w2 w3 w4 m row _ h3 =>
      refine key 1 _ rfl _ (fun H1 h1 b1 => ?_)
      have hA1 := hA.kept (b1.frz hp (by intro _ _ z; cases z))
      refine ⟨_, rfl, rfl, _, rfl, iteF ⟨_, rfl, rfl, _, rfl, iteT ⟨_, rfl, _, rfl, ps, pd, pr, dxr, pc, O, cs, i + 1, s, ⟨[w1, w2, w3, w4], m, row⟩, t, rfl, hs.reader hp b1, h1, hA1, rfl, dr _ _ rfl, (by show row.length ≤ 100000; omega), ?_⟩⟩⟩
      have k2 := k (i + 1 + 6 + row.length) (by omega) (by
        rw [show i + 1 + 6 + row.length = i + (7 + row.length) by omega, ← List.drop_drop, hcs, Nat.add_comm 7 row.length]
        show (row ++ t).drop row.length = t
        exact List.drop_left)
      rw [day_spec s ⟨[w1, w2, w3, w4], m, row⟩ rfl] at k2
      exact k2.but b1 ⟨_, h1⟩
    | drop _ =>
      refine key 2 _ rfl _ (fun H1 h1 b1 => ?_)
      have hs1 := hs.reader hp b1
      obtain ⟨dx, _, _, _, hps⟩ := hs1.obj
      refine ⟨_, rfl, rfl, _, rfl, iteF ⟨_, rfl, rfl, _, rfl, iteF ⟨_, rfl, rfl, _, rfl, iteT ⟨_, rfl, ps, dx, _, rfl, hps, rfl, ps, pd, O, s, rfl, hs1, fun H2 hs2 b2 => ⟨(by show 1 ≤ sizeLine; decide), fun q nq => ?_⟩⟩⟩⟩⟩
      obtain ⟨ds2, g2⟩ := hs2.pdlst
      obtain ⟨ds1, g1'⟩ := hs1.pdlst
      have nprd : pr ≠ pd := ne_of h1 g1' (by intro z; cases z)
      have k2 := k (i + 1) (by omega) (dr _ _ rfl)
      rw [drop_spec s] at k2
      have h2r := b2 _ _ h1 nprd
      refine (k2.but b1 ⟨_, h1⟩) _ q pd O (b2.none ⟨_, g2⟩ nq) upd_same (.inl rfl) (fun b z => .inl z) (ne_of_none g2 nq) (hs2.same (same_upd nq)) ?_ ?_
      · rw [upd_ne (ne_of_none h2r nq)]
        exact h2r
      · intro b o e _ n2 _
        have e2 := b2 b o e n2
        rw [upd_ne (ne_of_none e2 nq)]
        exact e2
    | follow row _ h3 =>
      refine key 3 _ rfl _ (fun H1 h1 b1 => ?_)
      have hA1 := hA.kept (b1.frz hp (by intro _ _ z; cases z))
      have hs1 := hs.reader hp b1
      obtain ⟨dx, _, _, _, hps⟩ := hs1.obj
      have hd1 : cs.drop (i + 1) = [row.length] ++ (row ++ t) := dr _ _ rfl
      have hlen := drop_len hd1 (by simp)
      refine ⟨_, rfl, rfl, _, rfl, iteF ⟨_, rfl, rfl, _, rfl, iteF ⟨_, rfl, rfl, _, rfl, iteF ⟨_, rfl, rfl, _, rfl, iteT ⟨_, rfl, ps, dx, _, rfl, hps, rfl, _, rfl, pr, dxr, _, rfl, h1, rfl, pr, dxr, pc, nv cs, i + 1, row.length, rfl, h1, (fun H' b' => (hA1.kept (b'.frz h1 (by intro _ _ z; cases z))).seq), drop_get (k := 0) hd1 rfl, (by rw [nv_len, hlen]; simp; omega), fun H2 q nq hq h2 b2 => ?_⟩⟩⟩⟩⟩
      have hs2 := hs1.reader h1 b2
      have hq' : H2 q = some (.lst (nv row)) := by
        rw [hq]
        have := drop_take (k := 1) hd1 rfl
        rw [this]
      obtain ⟨ds2, hpd2⟩ := hs2.pdlst
      have k2 := k (i + 1 + 1 + row.length) (by omega) (by
        rw [show i + 1 + 1 + row.length = i + (2 + row.length) by omega, ← List.drop_drop, hcs, Nat.add_comm 2 row.length]
        show (row ++ t).drop row.length = t
        exact List.drop_left)
      rw [step_follow] at k2
      refine ⟨ps, pd, q, O, s, row, rfl, hs2, hq', h3, g, fun H3 r s3 nr hr3' => ?_⟩
      exact ((k2.but b1 ⟨_, h1⟩).but b2 ⟨_, h2⟩) H3 r pd O nr hr3' (.inl rfl) (fun b z => .inl z) (ne_of_none hpd2 nr) (hs2.same s3) (s3 _ _ h2) (fun b o e _ _ _ => s3 _ _ e)
    | best _ =>
      refine key 4 _ rfl _ (fun H1 h1 b1 => ?_)
      have hs1 := hs.reader hp b1
      obtain ⟨dx, _, _, _, hps⟩ := hs1.obj
      obtain ⟨ds1, hpd1⟩ := hs1.pdlst
      refine ⟨_, rfl, rfl, _, rfl, iteF ⟨_, rfl, rfl, _, rfl, iteF ⟨_, rfl, rfl, _, rfl, iteF ⟨_, rfl, rfl, _, rfl, iteF ⟨_, rfl, rfl, _, rfl, iteT ⟨_, rfl, ps, dx, _, rfl, hps, rfl, ps, pd, O, s, rfl, hs1, g, fun H3 r s3 nr hr3' => ?_⟩⟩⟩⟩⟩⟩
      have k2 := k (i + 1) (by omega) (dr _ _ rfl)
      exact (k2.but b1 ⟨_, h1⟩) H3 r pd O nr hr3' (.inl rfl) (fun b z => .inl z) (ne_of_none hpd1 nr) (hs1.same s3) (s3 _ _ h1) (fun b o e _ _ _ => s3 _ _ e)
    | evening kk row _ h3 =>
      refine key 5 _ rfl _ (fun H1 h1 b1 => ?_)
      have hA1 := hA.kept (b1.frz hp (by intro _ _ z; cases z))
      refine ⟨_, rfl, rfl, _, rfl, iteF ⟨_, rfl, rfl, _, rfl, iteF ⟨_, rfl, rfl, _, rfl, iteF ⟨_, rfl, rfl, _, rfl, iteF ⟨_, rfl, rfl, _, rfl, iteF ⟨_, rfl, rfl, _, rfl, iteT ⟨_, rfl, _, rfl, ps, pd, pr, dxr, pc, O, cs, i + 1, s, kk, row, t, rfl, hs.reader hp b1, h1, hA1, dr _ _ rfl, h3, g, ?_⟩⟩⟩⟩⟩⟩⟩
      have k2 := k (i + 1 + 2 + row.length) (by omega) (by
        rw [show i + 1 + 2 + row.length = i + (3 + row.length) by omega, ← List.drop_drop, hcs, Nat.add_comm 3 row.length]
        show (row ++ t).drop row.length = t
        exact List.drop_left)
      rw [step_evening] at k2
      exact k2.but b1 ⟨_, h1⟩
def spAns (K : PySem.W.Frag) : Sp := fun vs H Q _ => ∃ (p : Addr) (l : List Nat), vs = [.ref p] ∧ Arg K H p (nv l) ∧ l.length ≤ 30000 ∧ PyUw01.answers_asked (nl l) = true ∧
  ∀ (H' : Hp) (q : Addr), H' q = some (.lst ((PyUw01.answers (nl l)).map V.int)) → Q (.ref q) H'
theorem ok_answers (T : Txt K mg a) : FnOk P w K mg base CX0 9 a.f_answers a.d_answers ["calls"] (spAns K) := by
  refine T.F_answers.ok sc_answers (fun vs H Q E h => ?_) (fun cdv A outer s H vs Q E hr h => ?_)
  · obtain ⟨p, l, rfl, _⟩ := h
    rfl
  · obtain ⟨p, l, rfl, hA, hl, hask, k⟩ := h
    obtain ⟨hst, hlen⟩ := ask_start hask
    have hr1 := hr.mono (j := 1) (by decide)
    have hr2 := hr.mono (j := 2) (by decide)
    refine ⟨_, pss_cons (ps_set (i := 1) sc_answers.nd rfl (Or.inl rfl) (pe_make0 T.mk_Season (ok_Season_init T) hr2 (by rfl) T.g_Season T.B_Season_init .nil pass0))
      (pss_cons (ps_set (i := 2) sc_answers.nd rfl (Or.inl rfl) (pe_make T.mk_Reader (ok_Reader_init T) hr2 (by rfl) T.g_Reader T.B_Reader_init .nil pass0 (pa_cons (pv 0) pa_nil)))
      (pss_cons (ps_set (i := 3) sc_answers.nd rfl (Or.inl rfl) (pe_lst pa_nil))
      (pss_cons (ps_while PassesOwn.never (pt_not (pt_val (pe_meth0 (pv 2) T.cl_Reader T.me_Reader_is_done (ok_Reader_is_done T) hr1 T.B_Reader_is_done .nil pass0)))
        (pss_cons (ps_set (i := 4) sc_answers.nd rfl (Or.inl rfl) (pe_call (ok_answer_call T) hr (by rfl) T.g_answer_call T.F_answer_call.kp T.B_answer_call .nil pass0 (pa_cons (pv 1) (pa_cons (pv 2) pa_nil))))
        (pss_cons (ps_expr (pe_bm PySem.F.plainAttrs_list PySem.F.slot_list_append PySem.F.type_list_append mt_append (pv 3) (pa_cons (pe_callB call_len_seq (by rfl) T.b_len PySem.boot_len (pa_cons (pv 4) pa_nil)) pa_nil)))
        (pss_one (ps_expr (pe_bm PySem.F.plainAttrs_list PySem.F.slot_list_extend PySem.F.type_list_extend mt_extend (pv 3) (pa_cons (pv 4) pa_nil)))))))
      (pss_one (ps_ret (pv 3)))))), ?_⟩
    -- season = Season()
    intro x dx nx ndx nex
    refine ⟨x, dx, rfl, upd_same, fun H1 pd O npd hO hs1 b1 => ⟨rfl, ?_⟩⟩
    have s1 : Same H H1 := Same.made nx ndx b1
    -- reader = Reader(calls)
    refine ⟨_, rfl, fun y dy ny ndy ney => ?_⟩
    refine ⟨y, dy, p, rfl, upd_same, rfl, ?_⟩
    rw [upd_upd]
    have s2 : Same H1 (upd (upd H1 dy (.own y)) y (.ins a.c_Reader dy (fReader p 0))) := fun b o e => by
      rw [upd_ne (ne_of_none e ny), upd_ne (ne_of_none e ndy)]
      exact e
    have hy : (upd (upd H1 dy (.own y)) y (.ins a.c_Reader dy (fReader p 0))) y = some (.ins a.c_Reader dy (fReader p 0)) := upd_same
    generalize (upd (upd H1 dy (.own y)) y (.ins a.c_Reader dy (fReader p 0))) = H2 at s2 hy ⊢
    -- given = []
    refine ⟨Nat.zero_le _, fun g ng => ?_⟩
    have s3 := same_upd (o := .lst []) ng
    have hs3 := (hs1.same s2).same s3
    have hA3 : Arg K (upd H2 g (.lst [])) p (nv l) := hA.kept fun b o u e => s3 _ _ (s2 _ _ (s1 _ _ e))
    obtain ⟨ds3, hpd3⟩ := (hs1.same s2).pdlst
    -- the loop
    have hO3 : ∀ b, O b → ∃ o, H2 b = some o := fun b ob => by
      obtain ⟨o, e⟩ := hO b ob
      exact ⟨o, s2 _ _ e⟩
    refine ⟨fun m σ H' => ∃ (v : Option V) (pd' : Addr) (O' : Addr → Prop) (i : Nat) (sn : Uw01.Season) (done due : List Int), σ = [some (.ref p), some (.ref x), some (.ref y), some (.ref g), v] ∧ SeasonAt a H' x pd' O' sn ∧
        H' y = some (.ins a.c_Reader dy (fReader p (i : Int))) ∧ Arg K H' p (nv l) ∧ H' g = some (.lst (done.map V.int)) ∧ g ≠ pd' ∧ ¬ O' g ∧ Ask (l.drop i) sn due ∧ PyUw01.answers (nl l) = done ++ due ∧ Good sn ∧ m = l.length - i,
      ⟨_, none, pd, O, 0, Uw01.init, [], PyUw01.answers (nl l), rfl, hs3, s3 _ _ hy, hA3, upd_same, (ne_of_none hpd3 ng).symm, (fun z => by obtain ⟨o, e⟩ := hO3 g z; rw [ng] at e; cases e), hst, rfl, good_init, rfl⟩, ?_⟩
    rintro m σ H' ⟨v, pd', O', i, sn, done, due, rfl, hS, hY, hAr, hG, ngd, nO, hAsk, hD, hGd, rfl⟩
    refine ⟨_, rfl, y, dy, _, rfl, hY, rfl, y, dy, p, nv l, i, rfl, hY, hAr.seq, _, rfl, ?_⟩
    rw [nv_len]
    by_cases hi : l.length ≤ i
    · rw [decide_eq_true hi]
      refine iteF ⟨_, rfl, k H' g ?_⟩
      rw [List.drop_eq_nil_of_le hi] at hAsk
      rw [hD, ask_nil hAsk, List.append_nil]
      exact hG
    · rw [decide_eq_false hi]
      refine iteT ⟨_, fun σ' H'' z => z, ?_⟩
      obtain ⟨n, R, hR⟩ : ∃ n R, l.drop i = n :: R := by
        cases e : l.drop i with
        | nil =>
          have := congrArg List.length e
          rw [List.length_drop] at this
          simp at this
          omega
        | cons n R => exact ⟨n, R, rfl⟩
      rw [hR] at hAsk
      obtain ⟨c, t, due', hRd, hdue, hAsk'⟩ := ask_cons hAsk
      rw [← hR] at hRd
      refine ⟨_, rfl, _, rfl, x, pd', y, dy, p, O', l, i, sn, c, t, rfl, hS, hY, hAr, hRd, hGd, fun i' hi' ht => ?_⟩
      intro H4 q pd4 O4 nq hq hpd4 hO4 npq hS4 hY4 fr
      obtain ⟨dxs, _, _, _, hxs⟩ := hS.obj
      obtain ⟨ds', hpd'⟩ := hS.pdlst
      have ngx : g ≠ x := ne_of hG hxs (by intro z; cases z)
      have ngy : g ≠ y := ne_of hG hY (by intro z; cases z)
      have ngq : g ≠ q := ne_of_none hG nq
      have hG4 : H4 g = some (.lst (done.map V.int)) := fr g _ hG ngx ngd ngy
      have ngd4 : g ≠ pd4 := by
        rcases hpd4 with e | e
        · rw [e]
          exact ngd
        · exact ne_of_none hG e
      have hA4 : Arg K H4 p (nv l) := hAr.kept fun b o u e => fr b _ e (ne_of e hxs (by intro z; cases z)) (ne_of e hpd' (by intro z; cases z)) (ne_of e hY (by intro z; cases z))
      have bound : done.length + (Uw01Neutral.out (Uw01.step sn c).2).length + 1 ≤ 1000040 := by
        have e := congrArg List.length hD
        rw [hdue, List.length_append, List.length_cons, List.length_append] at e
        omega
      -- given.append(len(answer))
      refine ⟨_, rfl, .inl ⟨rfl, _, SqL.of hG4⟩, _, rfl, q, _, rfl, .inl (SqL.of hq), g, _, _, rfl, rfl, hG4, (by rw [List.length_map, sizeLine_eq]; omega), ?_⟩
      have hG5 : ∀ o, upd H4 g o g = some o := fun o => upd_same
      -- given.extend(answer)
      refine ⟨_, rfl, .inl ⟨rfl, _, SqL.of (hG5 _)⟩, _, rfl, g, q, _, _, rfl, rfl, hG5 _, (by rw [upd_ne ngq.symm]; exact hq), (by rw [List.length_append, List.length_map, List.length_map, sizeLine_eq]; simp only [List.length_cons, List.length_nil]; omega), ?_⟩
      rw [upd_upd]
      have kG : But g H4 (upd H4 g (.lst (done.map V.int ++ [V.int ((((Uw01Neutral.out (Uw01.step sn c).2).map V.int).length : Nat) : Int)] ++ (Uw01Neutral.out (Uw01.step sn c).2).map V.int))) := fun b o e hb => by rw [upd_ne hb]; exact e
      have hY5 := kG _ _ hY4 ngy.symm
      have nO4 : ¬ O4 g := fun z => by
        rcases hO4 g z with e | e
        · exact nO e
        · rw [hG] at e
          cases e
      refine ⟨l.length - i', by omega, _, pd4, O4, i', (Uw01.step sn c).1, done ++ (((Uw01Neutral.out (Uw01.step sn c).2).length : Int) :: Uw01Neutral.out (Uw01.step sn c).2), due', rfl, ?_, hY5, hA4.kept fun b o u e => kG b _ e (ne_of e hG4 (by intro z; cases z)), ?_, ngd4, nO4, by rw [ht]; exact hAsk', ?_, hGd.step hRd, rfl⟩
      · refine hS4.keep fun b o e ho => kG b o e ?_
        rcases ho with ⟨⟨_, rfl⟩, z⟩ | ⟨_, _, _, _, _, rfl⟩ | ⟨_, _, _, _, _, _, rfl⟩
        · intro z2
          subst z2
          rcases z with z | z
          · exact nO4 z
          · exact ngd4 z
        · exact ne_of e hG4 (by intro z; cases z)
        · exact ne_of e hG4 (by intro z; cases z)
      · rw [upd_same, List.map_append, List.map_cons, List.length_map, List.append_assoc]
        rfl
      · rw [hD, hdue, List.append_assoc]
        rfl
end
end Fs

set_option Elab.async false
theorem PySem.W.Fast.tw14619330162198088335 : True := True.intro
theorem PySem.W.Fast.tw8494802108129772097 : True := True.intro
theorem PySem.W.Fast.tw5813588186304606139 : True := True.intro
theorem PySem.W.Fast.tw9162644797771430041 : True := True.intro
theorem PySem.W.Fast.tw15680646062522130439 : True := True.intro
theorem PySem.W.Fast.tw18354306755331741251 : True := True.intro
theorem PySem.W.Fast.tw7210859244277688034 : True := True.intro
theorem PySem.W.Fast.tw5054512408359565813 : True := True.intro
theorem PySem.W.Fast.tw6275856054123932386 : True := True.intro
theorem PySem.W.Fast.tw18321831158115959627 : True := True.intro
theorem PySem.W.Fast.tw14138514365078697558 : True := True.intro
theorem PySem.W.Fast.tw6823858807398574159 : True := True.intro
theorem PySem.W.Fast.tw1053308655927817985 : True := True.intro
theorem PySem.W.Fast.tw12500733572613752642 : True := True.intro
theorem PySem.W.Fast.tw7070220059705796546 : True := True.intro
theorem PySem.W.Fast.tw4856460257826758502 : True := True.intro
theorem PySem.W.Fast.tw17872484211087052420 : True := True.intro
theorem PySem.W.Fast.tw9286668750641474932 : True := True.intro
theorem PySem.W.Fast.tw19168706698074185 : True := True.intro
theorem PySem.W.Fast.tw13861905261325741415 : True := True.intro
theorem PySem.W.Fast.tw347695326689472069 : True := True.intro
theorem PySem.W.Fast.tw13523949841985104970 : True := True.intro
theorem PySem.W.Fast.tw11533882368662396354 : True := True.intro
theorem PySem.W.Fast.tw3145607744878043813 : True := True.intro
theorem PySem.W.Fast.tw11222539526018581559 : True := True.intro
theorem PySem.W.Fast.tw7739550638453566050 : True := True.intro
theorem PySem.W.Fast.tw7576855276378287247 : True := True.intro
theorem PySem.W.Fast.tw11323968505335928390 : True := True.intro
theorem PySem.W.Fast.tw6566031914319577548 : True := True.intro
theorem PySem.W.Fast.tw16155606664668552731 : True := True.intro
theorem PySem.W.Fast.tw14417666797406398802 : True := True.intro
theorem PySem.W.Fast.tw17099113371044638445 : True := True.intro
theorem PySem.W.Fast.tw7969369869174742918 : True := True.intro
theorem PySem.W.Fast.tw10420370321212459889 : True := True.intro
theorem PySem.W.Fast.tw6831008314581965587 : True := True.intro
theorem PySem.W.Fast.tw1619940666954072640 : True := True.intro
theorem PySem.W.Fast.tw2879914955793761448 : True := True.intro
theorem PySem.W.Fast.tw10483488932848753321 : True := True.intro
theorem PySem.W.Fast.tw11203642859131831754 : True := True.intro
theorem PySem.W.Fast.tw6492005431587239885 : True := True.intro
theorem PySem.W.Fast.tw15689538054660685059 : True := True.intro
theorem PySem.W.Fast.tw8927783885297291155 : True := True.intro
theorem PySem.W.Fast.tw5211241753577906704 : True := True.intro
theorem PySem.W.Fast.tw11149211865543667892 : True := True.intro
theorem PySem.W.Fast.tw162345952807434306 : True := True.intro
theorem PySem.W.Fast.tw9321256258442238996 : True := True.intro
theorem PySem.W.Fast.tw8903107852610622806 : True := True.intro
theorem PySem.W.Fast.tw15255125493844338178 : True := True.intro
theorem PySem.W.Fast.tw17082563358820070755 : True := True.intro
theorem PySem.W.Fast.tw15921347738563268375 : True := True.intro
theorem PySem.W.Fast.tw15266200631882981831 : True := True.intro
theorem PySem.W.Fast.tw5342670232155255586 : True := True.intro
theorem PySem.W.Fast.tw7550916805125073551 : True := True.intro
theorem PySem.W.Fast.tw4495925295852288254 : True := True.intro
theorem PySem.W.Fast.tw13045421986015870096 : True := True.intro
theorem PySem.W.Fast.tw11147021118248223659 : True := True.intro
theorem PySem.W.Fast.tw16288123471302926299 : True := True.intro
theorem PySem.W.Fast.tw7427838926430966496 : True := True.intro
theorem PySem.W.Fast.tw983562954683913746 : True := True.intro
theorem PySem.W.Fast.tw3995213922877112758 : True := True.intro
theorem PySem.W.Fast.tw9062484986797173771 : True := True.intro
theorem PySem.W.Fast.tw9828409792736748362 : True := True.intro
theorem PySem.W.Fast.tw9352498987387013196 : True := True.intro
theorem PySem.W.Fast.tw14896448352739526333 : True := True.intro
theorem PySem.W.Fast.tw17401356078104185149 : True := True.intro
theorem PySem.W.Fast.tw10242911897814463962 : True := True.intro
theorem PySem.W.Fast.tw5717577200890541319 : True := True.intro
theorem PySem.W.Fast.tw5303521314200973251 : True := True.intro
theorem PySem.W.Fast.tw10377315438766174047 : True := True.intro
theorem PySem.W.Fast.tw9675072660201046883 : True := True.intro
theorem PySem.W.Fast.tw3016874688154512450 : True := True.intro
theorem PySem.W.Fast.tw16315922687761416033 : True := True.intro
theorem PySem.W.Fast.tw1528010177529190620 : True := True.intro
theorem PySem.W.Fast.tw1096712975860091011 : True := True.intro
theorem PySem.W.Fast.tw12637367568175471975 : True := True.intro
theorem PySem.W.Fast.tw4214210503854131720 : True := True.intro
theorem PySem.W.Fast.tw15215799536223170891 : True := True.intro
theorem PySem.W.Fast.tw8177180664804135205 : True := True.intro
theorem PySem.W.Fast.tw7647131429029742199 : True := True.intro
theorem PySem.W.Fast.tw16950736553344948438 : True := True.intro
theorem PySem.W.Fast.tw3039946165846402646 : True := True.intro
theorem PySem.W.Fast.tw5687221500287520486 : True := True.intro
theorem PySem.W.Fast.tw653240039441374674 : True := True.intro
theorem PySem.W.Fast.tw15499101499129364046 : True := True.intro
theorem PySem.W.Fast.tw18098391712259547813 : True := True.intro
theorem PySem.W.Fast.tw8038542766320681630 : True := True.intro
theorem PySem.W.Fast.tw197684874785887297 : True := True.intro
theorem PySem.W.Fast.tw17939925781681263354 : True := True.intro
theorem PySem.W.Fast.tw133041746241090685 : True := True.intro
theorem PySem.W.Fast.tw7289107848612844570 : True := True.intro
theorem PySem.W.Fast.tw12781133949716032084 : True := True.intro
theorem PySem.W.Fast.tw11842018617875737691 : True := True.intro
theorem PySem.W.Fast.tw9347127771016849561 : True := True.intro
theorem PySem.W.Fast.tw13502777036242832224 : True := True.intro
theorem PySem.W.Fast.tw11762257858044880492 : True := True.intro
theorem PySem.W.Fast.tw734164732956396391 : True := True.intro
theorem PySem.W.Fast.tw5010575190284847073 : True := True.intro
theorem PySem.W.Fast.tw6445068151234347455 : True := True.intro
theorem PySem.W.Fast.tw5459509794211379399 : True := True.intro
theorem PySem.W.Fast.tw1099093739624115438 : True := True.intro
theorem PySem.W.Fast.tw16918911629952098478 : True := True.intro
theorem PySem.W.Fast.tw7236272279254595243 : True := True.intro
theorem PySem.W.Fast.tw13088527262939877846 : True := True.intro
theorem PySem.W.Fast.tw3829958241429434792 : True := True.intro
theorem PySem.W.Fast.tw5381905045231337235 : True := True.intro
theorem PySem.W.Fast.tw13829463251796019513 : True := True.intro
theorem PySem.W.Fast.tw15226129616474259392 : True := True.intro
theorem PySem.W.Fast.tw5559574893128151389 : True := True.intro
theorem PySem.W.Fast.tw8835607757582536690 : True := True.intro
theorem PySem.W.Fast.tw9142865852076192982 : True := True.intro
theorem PySem.W.Fast.tw7831411785353396783 : True := True.intro
theorem PySem.W.Fast.tw13983564726479293408 : True := True.intro
theorem PySem.W.Fast.tw13311742606603733035 : True := True.intro
theorem PySem.W.Fast.tw299931443933138754 : True := True.intro
theorem PySem.W.Fast.tw11337299101661491628 : True := True.intro
theorem PySem.W.Fast.tw15399713890944657372 : True := True.intro
theorem PySem.W.Fast.tw7062936682474934354 : True := True.intro
theorem PySem.W.Fast.tw4692559944618324549 : True := True.intro
theorem PySem.W.Fast.tw11284797172502484374 : True := True.intro
theorem PySem.W.Fast.tw8561977054451186528 : True := True.intro
theorem PySem.W.Fast.tw3097977548358373660 : True := True.intro
theorem PySem.W.Fast.tw11230317541819226983 : True := True.intro
theorem PySem.W.Fast.tw7605966403092261328 : True := True.intro
theorem PySem.W.Fast.tw13717914132652622053 : True := True.intro
theorem PySem.W.Fast.tw8474257309720762612 : True := True.intro
theorem PySem.W.Fast.tw11931649273182027055 : True := True.intro
theorem PySem.W.Fast.tw14114551932082137930 : True := True.intro
theorem PySem.W.Fast.tw15202133460109205335 : True := True.intro
theorem PySem.W.Fast.tw16589429975590417721 : True := True.intro
theorem PySem.W.Fast.tw13392563685450913786 : True := True.intro
theorem PySem.W.Fast.tw15611778006818996550 : True := True.intro
theorem PySem.W.Fast.tw2398206711327899362 : True := True.intro
theorem PySem.W.Fast.tw8645381438571759232 : True := True.intro
theorem PySem.W.Fast.tw6316532260247508376 : True := True.intro
theorem PySem.W.Fast.tw6868038570962595166 : True := True.intro
theorem PySem.W.Fast.tw11963284778574870254 : True := True.intro
theorem PySem.W.Fast.tw538116116217062466 : True := True.intro
theorem PySem.W.Fast.tw15716733189274130268 : True := True.intro
theorem PySem.W.Fast.tw5320206219331512865 : True := True.intro
theorem PySem.W.Fast.tw11979837530756398280 : True := True.intro
theorem PySem.W.Fast.tw12263888978515629983 : True := True.intro
theorem PySem.W.Fast.tw16557822268304285509 : True := True.intro
theorem PySem.W.Fast.tw14928468671674312072 : True := True.intro
theorem PySem.W.Fast.tw17518972002401251687 : True := True.intro
theorem PySem.W.Fast.tw4123643058541229524 : True := True.intro
theorem PySem.W.Fast.tw16477005664904225783 : True := True.intro
theorem PySem.W.Fast.tw7582185445487391068 : True := True.intro
theorem PySem.W.Fast.tw14354994359300693898 : True := True.intro
theorem PySem.W.Fast.tw17266592249536511987 : True := True.intro
theorem PySem.W.Fast.tw16320424976537882076 : True := True.intro
theorem PySem.W.Fast.tw10115649119608991571 : True := True.intro
theorem PySem.W.Fast.tw7800127587900376921 : True := True.intro
theorem PySem.W.Fast.tw1622542126723287914 : True := True.intro
theorem PySem.W.Fast.tw9873278826797617550 : True := True.intro
theorem PySem.W.Fast.tw13612831089624960109 : True := True.intro
theorem PySem.W.Fast.tw15970277881912379754 : True := True.intro
theorem PySem.W.Fast.tw15020464299126032488 : True := True.intro
theorem PySem.W.Fast.tw14654424577230521014 : True := True.intro
theorem PySem.W.Fast.tw13568785175524639990 : True := True.intro
theorem PySem.W.Fast.tw12536043093585809999 : True := True.intro
theorem PySem.W.Fast.tw2673196063441609330 : True := True.intro
theorem PySem.W.Fast.tw15840046211174919356 : True := True.intro
theorem PySem.W.Fast.tw7954562637837672759 : True := True.intro
theorem PySem.W.Fast.tw2525026661893864866 : True := True.intro
theorem PySem.W.Fast.tw16194118223551122369 : True := True.intro
theorem PySem.W.Fast.tw12916779482495966358 : True := True.intro
theorem PySem.W.Fast.tw265198850171330123 : True := True.intro
theorem PySem.W.Fast.tw5125403228307137405 : True := True.intro
theorem PySem.W.Fast.tw15604467589019434660 : True := True.intro
theorem PySem.W.Fast.tw5815315222311913919 : True := True.intro
theorem PySem.W.Fast.tw3648165804357054339 : True := True.intro
theorem PySem.W.Fast.tw12645630965332409804 : True := True.intro
theorem PySem.W.Fast.tw6385463301193963381 : True := True.intro
theorem PySem.W.Fast.tw4436541140011619777 : True := True.intro
theorem PySem.W.Fast.tw10450572136104657082 : True := True.intro
theorem PySem.W.Fast.tw810388362640407265 : True := True.intro
theorem PySem.W.Fast.tw15988051446929492760 : True := True.intro
theorem PySem.W.Fast.tw4784526902203448547 : True := True.intro
theorem PySem.W.Fast.tw3593971485733013462 : True := True.intro
theorem PySem.W.Fast.tw13793085372943315614 : True := True.intro
theorem PySem.W.Fast.tw16778611930252712969 : True := True.intro
theorem PySem.W.Fast.tw4647924337768311717 : True := True.intro
theorem PySem.W.Fast.tw88362641910675367 : True := True.intro
theorem PySem.W.Fast.tw14617037293911507003 : True := True.intro
theorem PySem.W.Fast.tw2567903864386282881 : True := True.intro
theorem PySem.W.Fast.tw8022414966556047083 : True := True.intro
theorem PySem.W.Fast.tw17204383410144132300 : True := True.intro
theorem PySem.W.Fast.tw10438301264125241200 : True := True.intro
theorem PySem.W.Fast.tw18387768053638199618 : True := True.intro
theorem PySem.W.Fast.tw14574685263650088809 : True := True.intro
theorem PySem.W.Fast.tw4110516830478939411 : True := True.intro
theorem PySem.W.Fast.tw4389402846450216859 : True := True.intro
theorem PySem.W.Fast.tw2075359038346695331 : True := True.intro
theorem PySem.W.Fast.tw13181042587015132358 : True := True.intro
theorem PySem.W.Fast.tw18065545371105419226 : True := True.intro
theorem PySem.W.Fast.tw287705528501614909 : True := True.intro
theorem PySem.W.Fast.tw6789210602618612683 : True := True.intro
theorem PySem.W.Fast.tw2790147240665953077 : True := True.intro
theorem PySem.W.Fast.tw16115024798819150455 : True := True.intro
theorem PySem.W.Fast.tw130475363191270037 : True := True.intro
theorem PySem.W.Fast.tw13520895341277558640 : True := True.intro
theorem PySem.W.Fast.tw9140799227914367 : True := True.intro
theorem PySem.W.Fast.tw8846225287454553967 : True := True.intro
theorem PySem.W.Fast.tw18035564998353474986 : True := True.intro
theorem PySem.W.Fast.tw16994516404091842582 : True := True.intro
theorem PySem.W.Fast.tw3747856945821583566 : True := True.intro
theorem PySem.W.Fast.tw1490729450848764064 : True := True.intro
theorem PySem.W.Fast.tw16878987936555186243 : True := True.intro
theorem PySem.W.Fast.tw3724453423107478556 : True := True.intro
theorem PySem.W.Fast.tw4893187596174970717 : True := True.intro
theorem PySem.W.Fast.tw13272422647693078675 : True := True.intro
theorem PySem.W.Fast.tw15480128002654924770 : True := True.intro
theorem PySem.W.Fast.tw15571658109736914035 : True := True.intro
theorem PySem.W.Fast.tw2272893298171419187 : True := True.intro
theorem PySem.W.Fast.tw16235528123882512832 : True := True.intro
theorem PySem.W.Fast.tw3586882758330707740 : True := True.intro
theorem PySem.W.Fast.tw7023245514332285461 : True := True.intro
theorem PySem.W.Fast.tw206776917817431766 : True := True.intro
theorem PySem.W.Fast.tw4281113054887183255 : True := True.intro
theorem PySem.W.Fast.tw11935315063034742382 : True := True.intro
theorem PySem.W.Fast.tw11254477009170949871 : True := True.intro
theorem PySem.W.Fast.tw11720076542192754522 : True := True.intro
theorem PySem.W.Fast.tw9447631851316385907 : True := True.intro
theorem PySem.W.Fast.tw2804635580504297572 : True := True.intro
theorem PySem.W.Fast.tw10037749606042106745 : True := True.intro
theorem PySem.W.Fast.tw9308156845866611968 : True := True.intro
theorem PySem.W.Fast.tw770074350733098125 : True := True.intro
theorem PySem.W.Fast.tw5197583861480854458 : True := True.intro
theorem PySem.W.Fast.tw15591908650766903185 : True := True.intro
theorem PySem.W.Fast.tw5364373470256595378 : True := True.intro
theorem PySem.W.Fast.tw6397698338798138122 : True := True.intro
theorem PySem.W.Fast.tw3538651442508477458 : True := True.intro
theorem PySem.W.Fast.tw12297593657507724015 : True := True.intro
theorem PySem.W.Fast.tw2129326470629101402 : True := True.intro
theorem PySem.W.Fast.tw12361637289872820586 : True := True.intro
theorem PySem.W.Fast.tw12328578600160897687 : True := True.intro
theorem PySem.W.Fast.tw8746281413020684203 : True := True.intro
theorem PySem.W.Fast.tw16395931400977396751 : True := True.intro
theorem PySem.W.Fast.tw1812466574928340094 : True := True.intro
theorem PySem.W.Fast.tw5049738078030774188 : True := True.intro
theorem PySem.W.Fast.tw7336601881606103311 : True := True.intro
theorem PySem.W.Fast.tw5874945489285392220 : True := True.intro
theorem PySem.W.Fast.tw11744786203506767833 : True := True.intro
theorem PySem.W.Fast.tw10088716009407722819 : True := True.intro
theorem PySem.W.Fast.tw16430017732285288476 : True := True.intro
theorem PySem.W.Fast.tw14505446135729407072 : True := True.intro
theorem PySem.W.Fast.tw16540254592099176252 : True := True.intro
theorem PySem.W.Fast.tw5949688171410042528 : True := True.intro
theorem PySem.W.Fast.tw17794948386338434323 : True := True.intro
theorem PySem.W.Fast.tw2745652639384098908 : True := True.intro
theorem PySem.W.Fast.tw3035833479700026865 : True := True.intro
theorem PySem.W.Fast.tw2830868651729745705 : True := True.intro
theorem PySem.W.Fast.tw10441066596876603618 : True := True.intro
theorem PySem.W.Fast.tw10912307376080249041 : True := True.intro
theorem PySem.W.Fast.tw12620710495400496519 : True := True.intro
theorem PySem.W.Fast.tw8880174409499225187 : True := True.intro
theorem PySem.W.Fast.tw1834536430069181195 : True := True.intro
theorem PySem.W.Fast.tw14538989964292258507 : True := True.intro
theorem PySem.W.Fast.tw9183390119388483740 : True := True.intro
theorem PySem.W.Fast.tw2966923030737930974 : True := True.intro
theorem PySem.W.Fast.tw153399128187037942 : True := True.intro
theorem PySem.W.Fast.tw14506272201029620673 : True := True.intro
theorem PySem.W.Fast.tw16511397615736486781 : True := True.intro
theorem PySem.W.Fast.tw3936208154075364951 : True := True.intro
theorem PySem.W.Fast.tw1740916580038230963 : True := True.intro
theorem PySem.W.Fast.tw11363392837908328613 : True := True.intro
theorem PySem.W.Fast.tw8322178773022400079 : True := True.intro
theorem PySem.W.Fast.tw2459517192926353147 : True := True.intro
theorem PySem.W.Fast.tw11539595557678469486 : True := True.intro
theorem PySem.W.Fast.tw14937641777650162029 : True := True.intro
theorem PySem.W.Fast.tw2916897859441046019 : True := True.intro
theorem PySem.W.Fast.tw6824952504116616023 : True := True.intro
theorem PySem.W.Fast.tw17944022784165351684 : True := True.intro
theorem PySem.W.Fast.tw5889429894533277992 : True := True.intro
theorem PySem.W.Fast.tw9631066229685138697 : True := True.intro
theorem PySem.W.Fast.tw4716808837095265130 : True := True.intro
theorem PySem.W.Fast.tw2130735348939847721 : True := True.intro
theorem PySem.W.Fast.tw1682717434906594748 : True := True.intro
theorem PySem.W.Fast.tw16908540718919218305 : True := True.intro
theorem PySem.W.Fast.tw9312443709345750300 : True := True.intro
theorem PySem.W.Fast.tw11543564257925237588 : True := True.intro
theorem PySem.W.Fast.tw369046929876384440 : True := True.intro
theorem PySem.W.Fast.tw10908285488956622805 : True := True.intro
theorem PySem.W.Fast.tw4896945723657162730 : True := True.intro
theorem PySem.W.Fast.tw11671652080712924880 : True := True.intro
theorem PySem.W.Fast.tw9531809569971982543 : True := True.intro
theorem PySem.W.Fast.tw14254085359149251318 : True := True.intro
theorem PySem.W.Fast.tw7301293925208272538 : True := True.intro
theorem PySem.W.Fast.tw16093561831905321782 : True := True.intro
theorem PySem.W.Fast.tw5640095501851493437 : True := True.intro
theorem PySem.W.Fast.tw10390050180443520365 : True := True.intro
theorem PySem.W.Fast.tw5855825237598411099 : True := True.intro
theorem PySem.W.Fast.tw9980593546900818474 : True := True.intro
theorem PySem.W.Fast.tw7838459720663357783 : True := True.intro
theorem PySem.W.Fast.tw1887864260106216022 : True := True.intro
theorem PySem.W.Fast.tw3749189613737635388 : True := True.intro
theorem PySem.W.Fast.tw12918786611372157371 : True := True.intro
theorem PySem.W.Fast.tw6534325180269645222 : True := True.intro
theorem PySem.W.Fast.tw10065057870819767115 : True := True.intro
theorem PySem.W.Fast.tw4136209493364720693 : True := True.intro
theorem PySem.W.Fast.tw7513815578563723531 : True := True.intro
theorem PySem.W.Fast.tw3046066056691418207 : True := True.intro
theorem PySem.W.Fast.tw16784391087807733792 : True := True.intro
theorem PySem.W.Fast.tw10678217847199021698 : True := True.intro
theorem PySem.W.Fast.tw15652769804835240097 : True := True.intro
theorem PySem.W.Fast.tw17250714315442162641 : True := True.intro
theorem PySem.W.Fast.tw8154650709780429314 : True := True.intro
theorem PySem.W.Fast.tw8885918990234962170 : True := True.intro
theorem PySem.W.Fast.tw1895323608719185109 : True := True.intro
theorem PySem.W.Fast.tw5127781335639971208 : True := True.intro
theorem PySem.W.Fast.tw7659202339233022108 : True := True.intro
theorem PySem.W.Fast.tw5638937712416174320 : True := True.intro
theorem PySem.W.Fast.tw5511681877115128193 : True := True.intro
theorem PySem.W.Fast.tw12251619965521468439 : True := True.intro
theorem PySem.W.Fast.tw4262660078821353455 : True := True.intro
theorem PySem.W.Fast.tw15634086804696699876 : True := True.intro
theorem PySem.W.Fast.tw1102044970857066204 : True := True.intro
theorem PySem.W.Fast.tw3484081583317061831 : True := True.intro
theorem PySem.W.Fast.tw2165557519500248578 : True := True.intro
theorem PySem.W.Fast.tw7579040484821392427 : True := True.intro
theorem PySem.W.Fast.tw4302072066361834163 : True := True.intro
theorem PySem.W.Fast.tw14555323678996328696 : True := True.intro
theorem PySem.W.Fast.tw4670583204700027515 : True := True.intro
theorem PySem.W.Fast.tw4002987971386000406 : True := True.intro
theorem PySem.W.Fast.tw7174972062637451495 : True := True.intro
theorem PySem.W.Fast.tw12638013807023000225 : True := True.intro
theorem PySem.W.Fast.tw5435450097657900799 : True := True.intro
theorem PySem.W.Fast.tw3239473869143024665 : True := True.intro
theorem PySem.W.Fast.tw4831996719284278210 : True := True.intro
theorem PySem.W.Fast.tw9379721142392230203 : True := True.intro
theorem PySem.W.Fast.tw348859267161951940 : True := True.intro
theorem PySem.W.Fast.tw5623775878001347764 : True := True.intro
theorem PySem.W.Fast.tw2153277465798972503 : True := True.intro
theorem PySem.W.Fast.tw6387427124429437684 : True := True.intro
theorem PySem.W.Fast.tw13836752510327044022 : True := True.intro
theorem PySem.W.Fast.tw9450766645720514112 : True := True.intro
theorem PySem.W.Fast.tw12590554243092886090 : True := True.intro
theorem PySem.W.Fast.tw16705702413385684721 : True := True.intro
theorem PySem.W.Fast.tw17900213686608015013 : True := True.intro
theorem PySem.W.Fast.tw11125120884664991251 : True := True.intro
theorem PySem.W.Fast.tw5615761815366335587 : True := True.intro
theorem PySem.W.Fast.tw9312208100654734629 : True := True.intro
theorem PySem.W.Fast.tw1833646311060501592 : True := True.intro
theorem PySem.W.Fast.tw9417469830839167009 : True := True.intro
theorem PySem.W.Fast.tw4675869379143697264 : True := True.intro
theorem PySem.W.Fast.tw13906468782869798987 : True := True.intro
theorem PySem.W.Fast.tw7679053727210372010 : True := True.intro
theorem PySem.W.Fast.tw10038277427090783856 : True := True.intro
theorem PySem.W.Fast.tw2295944395733925425 : True := True.intro
theorem PySem.W.Fast.tw13504976652947135920 : True := True.intro
theorem PySem.W.Fast.tw5211305723061356959 : True := True.intro
theorem PySem.W.Fast.tw5022402781912228739 : True := True.intro
theorem PySem.W.Fast.tw10117786785059711297 : True := True.intro
theorem PySem.W.Fast.tw4894955797686255848 : True := True.intro
theorem PySem.W.Fast.tw9895167894871414169 : True := True.intro
theorem PySem.W.Fast.tw11496168804841995257 : True := True.intro
theorem PySem.W.Fast.tw13890430310810671954 : True := True.intro
theorem PySem.W.Fast.tw17722132794267899351 : True := True.intro
theorem PySem.W.Fast.tw16562316727614391663 : True := True.intro
theorem PySem.W.Fast.tw8639737588573649805 : True := True.intro
theorem PySem.W.Fast.tw11424081680760068620 : True := True.intro
theorem PySem.W.Fast.tw15478144848604949228 : True := True.intro
theorem PySem.W.Fast.tw5196197408014067357 : True := True.intro
theorem PySem.W.Fast.tw14287100434008538914 : True := True.intro
theorem PySem.W.Fast.tw7915516676718552624 : True := True.intro
theorem PySem.W.Fast.tw1058827071947283057 : True := True.intro
theorem PySem.W.Fast.tw15131309648754622809 : True := True.intro
theorem PySem.W.Fast.tw12377625312557308599 : True := True.intro
theorem PySem.W.Fast.tw17809412647214818758 : True := True.intro
theorem PySem.W.Fast.tw7415418295516272396 : True := True.intro
theorem PySem.W.Fast.tw195080961229959381 : True := True.intro
theorem PySem.W.Fast.tw739528490569136683 : True := True.intro
theorem PySem.W.Fast.tw11115632860195601650 : True := True.intro
theorem PySem.W.Fast.tw13391614254565556971 : True := True.intro
theorem PySem.W.Fast.tw10320737686649363273 : True := True.intro
theorem PySem.W.Fast.tw13623906655682493205 : True := True.intro
theorem PySem.W.Fast.tw17772590420662356872 : True := True.intro

set_option Elab.async false
set_option maxRecDepth 100000
set_option maxHeartbeats 2000000
namespace Fs
open PySem PySem.Spec PyProof.Rows L2
open PySem.W (Codec)
theorem arg_of {K : PySem.W.Frag} {H : Hp} {p : Addr} {xs : List V} (hO : OnlyF H) (h : SqL K H p xs) : Arg K H p xs := fun H' k => by
  rcases h with (h | ⟨o, h⟩) | h
  · rcases hO p with e | ⟨o, u, e⟩
    · rw [e] at h
      cases h
    · rw [e] at h
      cases h
  · exact .inl (.inr ⟨o, k _ _ _ h⟩)
  · exact .inr h
theorem nats_of : ∀ ns : List Int, (∀ n ∈ ns, 0 ≤ n ∧ n ≤ 4294967295) → ∃ l : List Nat, ns = nl l
  | [], _ => ⟨[], rfl⟩
  | n :: ns, h => by
    obtain ⟨l, e⟩ := nats_of ns fun m hm => h m (List.mem_cons_of_mem _ hm)
    have h0 := (h n (List.mem_cons_self ..)).1
    refine ⟨n.toNat :: l, ?_⟩
    show n :: ns = ((n.toNat : Nat) : Int) :: nl l
    rw [e, Int.toNat_of_nonneg h0]
theorem nl_nv (l : List Nat) : (nl l).map V.int = nv l := by
  unfold nl nv
  rw [List.map_map]
  rfl
end Fs
open PySem PySem.W PyProof.Rows
set_option maxRecDepth 100000 in
set_option maxHeartbeats 0 in
theorem PySem.Challenge.cw_fireseasons_s01_answers_holds : PySem.Challenge.rw_fireseasons_s01_answers.Holds := by
  w_on; k_headS; (case hw => exact ⟨[.list [.int 2]], by decide +kernel, by decide +kernel⟩)
  k_fillS
  refine L2.walk_specK (r := PySem.Challenge.rw_fireseasons_s01_answers) (k := 9) (CX := L2.CX0) (ps := ["calls"]) (sp := Fs.spAns) (by decide +kernel) rfl rfl ⟨rfl, by decide, by decide⟩ (fun w h Y => PySem.W.kIn_of Y) ?F ?S (fun _ _ _ _ z => z)
  case F =>
    intro w mg fa h Y KX G hmg
    suffices q : ∃ a : Fs.Ads, Fs.Txt _ mg a ∧ a.f_answers = fa ∧ ∀ (s : Shared) (us : List Value), us.length = (["calls"] : List Str).length → BindsTo s a.d_answers ⟨us, []⟩ ((["calls"] : List Str).zip us) by
      obtain ⟨a, T, rfl, b⟩ := q
      exact ⟨a.d_answers, b, fun base _ _ => Fs.ok_answers T⟩
    refine' Fs.txt_mk KX G hmg ?b_all ?b_len ?b_list ?b_min ?b_range ?b_sum ?b_zip ?k_UP ?k_RIGHT ?k_DOWN ?k_LEFT ?k_NO_BREAK ?k_BEGINS ?k_DAY ?k_DROP ?k_FOLLOW ?k_BEST ?k_EVENING ?k_NOT_AS_TOLD ?k_NO_DAYS ?k_ENOUGH_DAYS ?k_NOT_CUT_THERE ?k_MOST_IN_A_ROW ?k_MOST_ROWS ?k_SLOWEST ?k_MOST_WORTH ?k_STRONGEST_WIND ?k_MOST_MINUTES ?k_MOST_DAYS ?k_DIRECTIONS ?aC_Evening ?aC_Course ?aC_Row ?aC_Day ?aC_Season ?aC_Reader ?aC_MayNotBeCut ?e_MayNotBeCut ?a_break_at ?l_break_at ?c_break_at ?p_break_at ?a_place_of ?l_place_of ?c_place_of ?p_place_of ?a_neighbours ?l_neighbours ?c_neighbours ?p_neighbours ?a_ways_from ?l_ways_from ?c_ways_from ?p_ways_from ?a_Evening_init ?i_Evening_init ?l_Evening_init ?c_Evening_init ?p_Evening_init ?a_Evening_may_be_cut ?i_Evening_may_be_cut ?l_Evening_may_be_cut ?c_Evening_may_be_cut ?p_Evening_may_be_cut ?a_Evening_could_burn ?i_Evening_could_burn ?l_Evening_could_burn ?c_Evening_could_burn ?p_Evening_could_burn ?a_evening_ahead_of_all ?l_evening_ahead_of_all ?c_evening_ahead_of_all ?p_evening_ahead_of_all ?a_Course_init ?i_Course_init ?l_Course_init ?c_Course_init ?p_Course_init ?a_Course_worth_together ?i_Course_worth_together ?l_Course_worth_together ?c_Course_worth_together ?p_Course_worth_together ?a_Course_times ?i_Course_times ?l_Course_times ?c_Course_times ?p_Course_times ?a_Course_evening_with ?i_Course_evening_with ?l_Course_evening_with ?c_Course_evening_with ?p_Course_evening_with ?a_follow_breaks ?l_follow_breaks ?c_follow_breaks ?p_follow_breaks ?a_Row_init ?i_Row_init ?l_Row_init ?c_Row_init ?p_Row_init ?a_Row_longer_by ?i_Row_longer_by ?l_Row_longer_by ?c_Row_longer_by ?p_Row_longer_by ?a_all_rows ?l_all_rows ?c_all_rows ?p_all_rows ?a_best_rows ?l_best_rows ?c_best_rows ?p_best_rows ?a_all_between ?l_all_between ?c_all_between ?p_all_between ?a_is_rising ?l_is_rising ?c_is_rising ?p_is_rising ?a_are_full_rows ?l_are_full_rows ?c_are_full_rows ?p_are_full_rows ?a_slowness_of ?l_slowness_of ?c_slowness_of ?p_slowness_of ?a_worth_of ?l_worth_of ?c_worth_of ?p_worth_of ?a_is_forest ?l_is_forest ?c_is_forest ?p_is_forest ?a_Day_init ?i_Day_init ?l_Day_init ?c_Day_init ?p_Day_init ?a_Day_is_as_told ?i_Day_is_as_told ?l_Day_is_as_told ?c_Day_is_as_told ?p_Day_is_as_told ?a_behind_lengths ?l_behind_lengths ?c_behind_lengths ?p_behind_lengths ?a_Season_init ?i_Season_init ?l_Season_init ?c_Season_init ?p_Season_init ?a_Season_begins ?i_Season_begins ?l_Season_begins ?c_Season_begins ?p_Season_begins ?a_Season_day ?i_Season_day ?l_Season_day ?c_Season_day ?p_Season_day ?a_Season_drop ?i_Season_drop ?l_Season_drop ?c_Season_drop ?p_Season_drop ?a_Season_are_breaks ?i_Season_are_breaks ?l_Season_are_breaks ?c_Season_are_breaks ?p_Season_are_breaks ?a_Season_ahead ?i_Season_ahead ?l_Season_ahead ?c_Season_ahead ?p_Season_ahead ?a_Season_courses ?i_Season_courses ?l_Season_courses ?c_Season_courses ?p_Season_courses ?a_Season_follow ?i_Season_follow ?l_Season_follow ?c_Season_follow ?p_Season_follow ?a_Season_best ?i_Season_best ?l_Season_best ?c_Season_best ?p_Season_best ?a_Season_evening ?i_Season_evening ?l_Season_evening ?c_Season_evening ?p_Season_evening ?a_Reader_init ?i_Reader_init ?l_Reader_init ?c_Reader_init ?p_Reader_init ?a_Reader_is_done ?i_Reader_is_done ?l_Reader_is_done ?c_Reader_is_done ?p_Reader_is_done ?a_Reader_take ?i_Reader_take ?l_Reader_take ?c_Reader_take ?p_Reader_take ?a_Reader_number ?i_Reader_number ?l_Reader_number ?c_Reader_number ?p_Reader_number ?a_Reader_row ?i_Reader_row ?l_Reader_row ?c_Reader_row ?p_Reader_row ?a_answer_begins ?l_answer_begins ?c_answer_begins ?p_answer_begins ?a_answer_day ?l_answer_day ?c_answer_day ?p_answer_day ?a_answer_evening ?l_answer_evening ?c_answer_evening ?p_answer_evening ?a_answer_call ?l_answer_call ?c_answer_call ?p_answer_call ?a_answers ?l_answers ?c_answers ?p_answers ?pg_Evening ?hd_Evening ?po_Evening ?sa_Evening ?mk_Evening ?kc_Evening ?n_Evening_burns ?n_Evening_fire ?n_Evening_lost ?pg_Course ?hd_Course ?po_Course ?sa_Course ?mk_Course ?kc_Course ?n_Course_minutes ?n_Course_ways ?n_Course_where ?n_Course_worth ?pg_Row ?hd_Row ?po_Row ?sa_Row ?mk_Row ?kc_Row ?n_Row_breaks ?n_Row_last ?pg_Day ?hd_Day ?po_Day ?sa_Day ?mk_Day ?kc_Day ?n_Day_minutes ?n_Day_where ?n_Day_wind ?pg_Season ?hd_Season ?po_Season ?sa_Season ?mk_Season ?kc_Season ?n_Season_days ?n_Season_slowness ?n_Season_wide ?n_Season_worth ?pg_Reader ?hd_Reader ?po_Reader ?sa_Reader ?mk_Reader ?kc_Reader ?n_Reader_calls ?n_Reader_position
    (case b_all => k_is)
    (case b_len => k_is)
    (case b_list => k_is)
    (case b_min => k_is)
    (case b_range => k_is)
    (case b_sum => k_is)
    (case b_zip => k_is)
    (case k_UP => k_is)
    (case k_RIGHT => k_is)
    (case k_DOWN => k_is)
    (case k_LEFT => k_is)
    (case k_NO_BREAK => k_is)
    (case k_BEGINS => k_is)
    (case k_DAY => k_is)
    (case k_DROP => k_is)
    (case k_FOLLOW => k_is)
    (case k_BEST => k_is)
    (case k_EVENING => k_is)
    (case k_NOT_AS_TOLD => k_is)
    (case k_NO_DAYS => k_is)
    (case k_ENOUGH_DAYS => k_is)
    (case k_NOT_CUT_THERE => k_is)
    (case k_MOST_IN_A_ROW => k_is)
    (case k_MOST_ROWS => k_is)
    (case k_SLOWEST => k_is)
    (case k_MOST_WORTH => k_is)
    (case k_STRONGEST_WIND => k_is)
    (case k_MOST_MINUTES => k_is)
    (case k_MOST_DAYS => k_is)
    (case k_DIRECTIONS => k_is)
    (case aC_Evening => k_is)
    (case aC_Course => k_is)
    (case aC_Row => k_is)
    (case aC_Day => k_is)
    (case aC_Season => k_is)
    (case aC_Reader => k_is)
    (case aC_MayNotBeCut => k_is)
    (case e_MayNotBeCut => k_exc)
    (case a_break_at => k_is)
    (case l_break_at => k_is)
    (case c_break_at => k_is)
    (case p_break_at => k_is)
    (case a_place_of => k_is)
    (case l_place_of => k_is)
    (case c_place_of => k_is)
    (case p_place_of => k_is)
    (case a_neighbours => k_is)
    (case l_neighbours => k_is)
    (case c_neighbours => k_is)
    (case p_neighbours => k_is)
    (case a_ways_from => k_is)
    (case l_ways_from => k_is)
    (case c_ways_from => k_is)
    (case p_ways_from => k_is)
    (case a_Evening_init => k_is)
    (case i_Evening_init => k_is)
    (case l_Evening_init => k_is)
    (case c_Evening_init => k_is)
    (case p_Evening_init => k_is)
    (case a_Evening_may_be_cut => k_is)
    (case i_Evening_may_be_cut => k_is)
    (case l_Evening_may_be_cut => k_is)
    (case c_Evening_may_be_cut => k_is)
    (case p_Evening_may_be_cut => k_is)
    (case a_Evening_could_burn => k_is)
    (case i_Evening_could_burn => k_is)
    (case l_Evening_could_burn => k_is)
    (case c_Evening_could_burn => k_is)
    (case p_Evening_could_burn => k_is)
    (case a_evening_ahead_of_all => k_is)
    (case l_evening_ahead_of_all => k_is)
    (case c_evening_ahead_of_all => k_is)
    (case p_evening_ahead_of_all => k_is)
    (case a_Course_init => k_is)
    (case i_Course_init => k_is)
    (case l_Course_init => k_is)
    (case c_Course_init => k_is)
    (case p_Course_init => k_is)
    (case a_Course_worth_together => k_is)
    (case i_Course_worth_together => k_is)
    (case l_Course_worth_together => k_is)
    (case c_Course_worth_together => k_is)
    (case p_Course_worth_together => k_is)
    (case a_Course_times => k_is)
    (case i_Course_times => k_is)
    (case l_Course_times => k_is)
    (case c_Course_times => k_is)
    (case p_Course_times => k_is)
    (case a_Course_evening_with => k_is)
    (case i_Course_evening_with => k_is)
    (case l_Course_evening_with => k_is)
    (case c_Course_evening_with => k_is)
    (case p_Course_evening_with => k_is)
    (case a_follow_breaks => k_is)
    (case l_follow_breaks => k_is)
    (case c_follow_breaks => k_is)
    (case p_follow_breaks => k_is)
    (case a_Row_init => k_is)
    (case i_Row_init => k_is)
    (case l_Row_init => k_is)
    (case c_Row_init => k_is)
    (case p_Row_init => k_is)
    (case a_Row_longer_by => k_is)
    (case i_Row_longer_by => k_is)
    (case l_Row_longer_by => k_is)
    (case c_Row_longer_by => k_is)
    (case p_Row_longer_by => k_is)
    (case a_all_rows => k_is)
    (case l_all_rows => k_is)
    (case c_all_rows => k_is)
    (case p_all_rows => k_is)
    (case a_best_rows => k_is)
    (case l_best_rows => k_is)
    (case c_best_rows => k_is)
    (case p_best_rows => k_is)
    (case a_all_between => k_is)
    (case l_all_between => k_is)
    (case c_all_between => k_is)
    (case p_all_between => k_is)
    (case a_is_rising => k_is)
    (case l_is_rising => k_is)
    (case c_is_rising => k_is)
    (case p_is_rising => k_is)
    (case a_are_full_rows => k_is)
    (case l_are_full_rows => k_is)
    (case c_are_full_rows => k_is)
    (case p_are_full_rows => k_is)
    (case a_slowness_of => k_is)
    (case l_slowness_of => k_is)
    (case c_slowness_of => k_is)
    (case p_slowness_of => k_is)
    (case a_worth_of => k_is)
    (case l_worth_of => k_is)
    (case c_worth_of => k_is)
    (case p_worth_of => k_is)
    (case a_is_forest => k_is)
    (case l_is_forest => k_is)
    (case c_is_forest => k_is)
    (case p_is_forest => k_is)
    (case a_Day_init => k_is)
    (case i_Day_init => k_is)
    (case l_Day_init => k_is)
    (case c_Day_init => k_is)
    (case p_Day_init => k_is)
    (case a_Day_is_as_told => k_is)
    (case i_Day_is_as_told => k_is)
    (case l_Day_is_as_told => k_is)
    (case c_Day_is_as_told => k_is)
    (case p_Day_is_as_told => k_is)
    (case a_behind_lengths => k_is)
    (case l_behind_lengths => k_is)
    (case c_behind_lengths => k_is)
    (case p_behind_lengths => k_is)
    (case a_Season_init => k_is)
    (case i_Season_init => k_is)
    (case l_Season_init => k_is)
    (case c_Season_init => k_is)
    (case p_Season_init => k_is)
    (case a_Season_begins => k_is)
    (case i_Season_begins => k_is)
    (case l_Season_begins => k_is)
    (case c_Season_begins => k_is)
    (case p_Season_begins => k_is)
    (case a_Season_day => k_is)
    (case i_Season_day => k_is)
    (case l_Season_day => k_is)
    (case c_Season_day => k_is)
    (case p_Season_day => k_is)
    (case a_Season_drop => k_is)
    (case i_Season_drop => k_is)
    (case l_Season_drop => k_is)
    (case c_Season_drop => k_is)
    (case p_Season_drop => k_is)
    (case a_Season_are_breaks => k_is)
    (case i_Season_are_breaks => k_is)
    (case l_Season_are_breaks => k_is)
    (case c_Season_are_breaks => k_is)
    (case p_Season_are_breaks => k_is)
    (case a_Season_ahead => k_is)
    (case i_Season_ahead => k_is)
    (case l_Season_ahead => k_is)
    (case c_Season_ahead => k_is)
    (case p_Season_ahead => k_is)
    (case a_Season_courses => k_is)
    (case i_Season_courses => k_is)
    (case l_Season_courses => k_is)
    (case c_Season_courses => k_is)
    (case p_Season_courses => k_is)
    (case a_Season_follow => k_is)
    (case i_Season_follow => k_is)
    (case l_Season_follow => k_is)
    (case c_Season_follow => k_is)
    (case p_Season_follow => k_is)
    (case a_Season_best => k_is)
    (case i_Season_best => k_is)
    (case l_Season_best => k_is)
    (case c_Season_best => k_is)
    (case p_Season_best => k_is)
    (case a_Season_evening => k_is)
    (case i_Season_evening => k_is)
    (case l_Season_evening => k_is)
    (case c_Season_evening => k_is)
    (case p_Season_evening => k_is)
    (case a_Reader_init => k_is)
    (case i_Reader_init => k_is)
    (case l_Reader_init => k_is)
    (case c_Reader_init => k_is)
    (case p_Reader_init => k_is)
    (case a_Reader_is_done => k_is)
    (case i_Reader_is_done => k_is)
    (case l_Reader_is_done => k_is)
    (case c_Reader_is_done => k_is)
    (case p_Reader_is_done => k_is)
    (case a_Reader_take => k_is)
    (case i_Reader_take => k_is)
    (case l_Reader_take => k_is)
    (case c_Reader_take => k_is)
    (case p_Reader_take => k_is)
    (case a_Reader_number => k_is)
    (case i_Reader_number => k_is)
    (case l_Reader_number => k_is)
    (case c_Reader_number => k_is)
    (case p_Reader_number => k_is)
    (case a_Reader_row => k_is)
    (case i_Reader_row => k_is)
    (case l_Reader_row => k_is)
    (case c_Reader_row => k_is)
    (case p_Reader_row => k_is)
    (case a_answer_begins => k_is)
    (case l_answer_begins => k_is)
    (case c_answer_begins => k_is)
    (case p_answer_begins => k_is)
    (case a_answer_day => k_is)
    (case l_answer_day => k_is)
    (case c_answer_day => k_is)
    (case p_answer_day => k_is)
    (case a_answer_evening => k_is)
    (case l_answer_evening => k_is)
    (case c_answer_evening => k_is)
    (case p_answer_evening => k_is)
    (case a_answer_call => k_is)
    (case l_answer_call => k_is)
    (case c_answer_call => k_is)
    (case p_answer_call => k_is)
    (case a_answers => k_is)
    (case l_answers => k_is)
    (case c_answers => k_is)
    (case p_answers => k_is)
    (case pg_Evening => k_is)
    (case hd_Evening => k_is)
    (case po_Evening => k_is)
    (case sa_Evening => k_is)
    (case mk_Evening => k_is)
    (case kc_Evening => k_is)
    (case n_Evening_burns => k_is)
    (case n_Evening_fire => k_is)
    (case n_Evening_lost => k_is)
    (case pg_Course => k_is)
    (case hd_Course => k_is)
    (case po_Course => k_is)
    (case sa_Course => k_is)
    (case mk_Course => k_is)
    (case kc_Course => k_is)
    (case n_Course_minutes => k_is)
    (case n_Course_ways => k_is)
    (case n_Course_where => k_is)
    (case n_Course_worth => k_is)
    (case pg_Row => k_is)
    (case hd_Row => k_is)
    (case po_Row => k_is)
    (case sa_Row => k_is)
    (case mk_Row => k_is)
    (case kc_Row => k_is)
    (case n_Row_breaks => k_is)
    (case n_Row_last => k_is)
    (case pg_Day => k_is)
    (case hd_Day => k_is)
    (case po_Day => k_is)
    (case sa_Day => k_is)
    (case mk_Day => k_is)
    (case kc_Day => k_is)
    (case n_Day_minutes => k_is)
    (case n_Day_where => k_is)
    (case n_Day_wind => k_is)
    (case pg_Season => k_is)
    (case hd_Season => k_is)
    (case po_Season => k_is)
    (case sa_Season => k_is)
    (case mk_Season => k_is)
    (case kc_Season => k_is)
    (case n_Season_days => k_is)
    (case n_Season_slowness => k_is)
    (case n_Season_wide => k_is)
    (case n_Season_worth => k_is)
    (case pg_Reader => k_is)
    (case hd_Reader => k_is)
    (case po_Reader => k_is)
    (case sa_Reader => k_is)
    (case mk_Reader => k_is)
    (case kc_Reader => k_is)
    (case n_Reader_calls => k_is)
    (case n_Reader_position => k_is)
  case S =>
    intro K H xs a hO hwi hask hx
    cases hx with
    | cons h1 h2 =>
      cases h2
      cases h1 with
      | lst hs ha =>
        have e := L2.ints_dw a.1 _ ha
        subst e
        have q : ((Codec.inLen 0 30000 a.1 && a.1.all (Codec.inInt 0 4294967295)) && true) = true := hwi
        rw [Bool.and_eq_true, Bool.and_eq_true] at q
        obtain ⟨l, el⟩ := Fs.nats_of a.1 fun n hn => Codec.inInt_iff.mp (List.all_eq_true.mp q.1.2 n hn)
        have hlen : l.length ≤ 30000 := by
          have := (Codec.inNat_iff.mp q.1.1).2
          rw [el, Fs.nl_len] at this
          exact this
        have hA := Fs.arg_of hO hs
        rw [el, Fs.nl_nv] at hA
        refine ⟨_, l, rfl, hA, hlen, (by rw [← el]; exact hask), fun H' p hp => ?_⟩
        rw [← el] at hp
        exact .lst (L2.SqL.of hp) (L2.dw_ints _)
#print axioms PySem.Challenge.cw_fireseasons_s01_answers_holds

