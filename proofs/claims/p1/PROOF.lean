import PyProof.Rows.All
import Wide.All
import OpenK.AllK
import Wide.FinOn
import PyProof.EqAt
import PyProof.EqKinds
import PyProof.TupleCall
import KE.BitLaws
import Open.SpecLaws
import KE.OsHead
import KE.OsGo
import PySem.Challenge.RW_chipchain_s01_answers
section
set_option Elab.async false
set_option linter.all false
set_option maxRecDepth 100000
/-! THE HAND LAYER, for ints, bools, texts, own classes, lists, tuples, dicts, comprehensions, walks over dicts, enumerate, zip, reversed, texts, calls, loops. Paste it whole ahead of your own text; what your proof does not reach may be deleted. -/
namespace L2
open PySem PySem.Spec PyProof.Rows

/-- a key: an int or a str -/
abbrev Key := Sum Int Str
def keyIs : Key → Value → Bool
  | .inl k, v => Value.isInt k v
  | .inr x, v => Value.isStrOf x v
def keyH (w : World) : Key → Int
  | .inl k => hashInt k
  | .inr x => hashStr w x
theorem keyIs_shape : ∀ {k : Key} {v : Value}, keyIs k v = true → (∃ i t, k = Sum.inl i ∧ v = Value.int i t) ∨ (∃ x t, k = Sum.inr x ∧ v = Value.str x t)
  | .inl i, v, h => by
    obtain ⟨t, e⟩ := Value.isInt_shape (k := i) (v := v) h
    exact .inl ⟨i, t, rfl, e⟩
  | .inr x, v, h => by
    obtain ⟨t, e⟩ := Value.isStrOf_shape (x := x) (v := v) h
    exact .inr ⟨x, t, rfl, e⟩
theorem key_ll (a b : Int) : decide ((Sum.inl a : Key) = Sum.inl b) = (a == b) := by
  by_cases e : a = b
  · subst e; simp
  · have h : ¬ (Sum.inl a : Key) = Sum.inl b := fun q => e (Sum.inl.inj q)
    rw [decide_eq_false h]
    exact (beq_eq_false_iff_ne.mpr e).symm
theorem key_rr (a b : Str) : decide ((Sum.inr a : Key) = Sum.inr b) = decide (a = b) := by
  by_cases e : a = b
  · subst e; simp
  · have h : ¬ (Sum.inr a : Key) = Sum.inr b := fun q => e (Sum.inr.inj q)
    rw [decide_eq_false h, decide_eq_false e]
theorem key_lr (a : Int) (b : Str) : decide ((Sum.inl a : Key) = Sum.inr b) = false := decide_eq_false (fun q => nomatch q)
theorem key_rl (a : Str) (b : Int) : decide ((Sum.inr a : Key) = Sum.inl b) = false := decide_eq_false (fun q => nomatch q)

def mixKind (prog : Program) (w : World) : PySem.KeyKind prog w Key where
  is := keyIs
  hash := keyH w
  inj := fun v a b ha hb => by
    rcases keyIs_shape ha with ⟨i, t, rfl, rfl⟩ | ⟨x, t, rfl, rfl⟩
    · rcases keyIs_shape hb with ⟨j, u, rfl, e⟩ | ⟨y, u, rfl, e⟩
      · injection e with e1 _; rw [e1]
      · exact nomatch e
    · rcases keyIs_shape hb with ⟨j, u, rfl, e⟩ | ⟨y, u, rfl, e⟩
      · exact nomatch e
      · injection e with e1 _; rw [e1]
  byValue := fun k v h => by
    rcases keyIs_shape h with ⟨i, t, rfl, rfl⟩ | ⟨x, t, rfl, rfl⟩ <;> rfl
  pyHash := fun hv h => by
    rcases keyIs_shape hv with ⟨i, t, rfl, rfl⟩ | ⟨x, t, rfl, rfl⟩
    · exact wpAny_pyHash_int h
    · exact wpAny_pyHash_str h
  eqBool := fun hu hv h => by
    rcases keyIs_shape hu with ⟨i, t, rfl, rfl⟩ | ⟨x, t, rfl, rfl⟩
    · rcases keyIs_shape hv with ⟨j, u, rfl, rfl⟩ | ⟨y, u, rfl, rfl⟩
      · rw [key_ll] at h; exact wpAny_eqBool_int h
      · rw [key_lr] at h; exact SeqAt.EqAt.int_str i t y u _ _ _ _ h
    · rcases keyIs_shape hv with ⟨j, u, rfl, rfl⟩ | ⟨y, u, rfl, rfl⟩
      · rw [key_rl] at h; exact SeqAt.EqAt.str_int x t j u _ _ _ _ h
      · rw [key_rr] at h; exact wpAny_eqBool_str h
  «strs» := fun k x t v h => by
    rcases keyIs_shape h with ⟨i, u, rfl, e⟩ | ⟨y, u, rfl, e⟩
    · exact nomatch e
    · injection e with e1 _
      subst e1
      cases v <;> rfl

end L2

namespace L2
open PySem PySem.Spec PyProof.Rows

/-- a value, without the heap -/
inductive V where
  | non | bl (b : Bool) | int (i : Int) | str (x : Str) | byt (b : Array UInt8) | flt (b : UInt64) | ref (a : Addr) | ty (n : String)
  deriving DecidableEq

def RelV : V → Value → Prop
  | .non, u => u = Value.none
  | .bl b, u => u = Value.bool b
  | .int i, u => ∃ t, u = Value.int i t
  | .str x, u => ∃ t, u = Value.str x t
  | .byt b, u => ∃ t, u = Value.bytes b t
  | .flt b, u => ∃ t, u = Value.float b t
  | .ref a, u => u = Value.ref a
  | .ty n, u => u = Value.type n

abbrev Vals : List V → List Value → Prop := Paired RelV
theorem Vals.length {xs : List V} {us : List Value} (r : Vals xs us) : xs.length = us.length := Paired.length r
theorem Vals.get : ∀ {xs : List V} {us : List Value} {i : Nat} {x : V}, Vals xs us → xs[i]? = some x → ∃ u, us[i]? = some u ∧ RelV x u
  | _, _, _, _, .nil, e => by simp at e
  | _, _, 0, _, .cons r _, e => by simp at e; subst e; exact ⟨_, rfl, r⟩
  | _, _, i + 1, x, .cons _ t, e => by
    obtain ⟨u, h1, h2⟩ := Vals.get (i := i) (x := x) t (by simpa using e)
    exact ⟨u, by simpa using h1, h2⟩
theorem Vals.set {x : V} {u : Value} (r : RelV x u) : ∀ {xs : List V} {us : List Value} (i : Nat), Vals xs us → Vals (xs.set i x) (us.set i u)
  | _, _, _, .nil => .nil
  | _, _, 0, .cons _ t => .cons r t
  | _, _, i + 1, .cons q t => .cons q (Vals.set r i t)
theorem Vals.append : ∀ {xs ys : List V} {us ws : List Value}, Vals xs us → Vals ys ws → Vals (xs ++ ys) (us ++ ws)
  | _, _, _, _, .nil, s => s
  | _, _, _, _, .cons r t, s => .cons r (Vals.append t s)
theorem Vals.take : ∀ {xs : List V} {us : List Value} (n : Nat), Vals xs us → Vals (xs.take n) (us.take n)
  | _, _, 0, _ => .nil
  | _, _, _ + 1, .nil => .nil
  | _, _, n + 1, .cons r t => .cons r (Vals.take n t)
theorem Vals.drop : ∀ {xs : List V} {us : List Value} (n : Nat), Vals xs us → Vals (xs.drop n) (us.drop n)
  | _, _, 0, r => r
  | _, _, _ + 1, .nil => .nil
  | _, _, n + 1, .cons _ t => Vals.drop n t
theorem Vals.none_of : ∀ {xs : List V} {us : List Value} {i : Nat}, Vals xs us → xs[i]? = none → us[i]? = none := fun {xs us i} r e => by
  have h1 := r.length
  have h2 : xs.length ≤ i := List.getElem?_eq_none_iff.mp e
  exact List.getElem?_eq_none_iff.mpr (by omega)

def RelO : Option V → Option Value → Prop
  | some v, some u => RelV v u
  | none, none => True
  | _, _ => False
def KV {κ : Type} : List (κ × V) → List (κ × Value) → Prop := Paired fun (p : κ × V) (q : κ × Value) => p.1 = q.1 ∧ RelV p.2 q.2

/-- a key of a dict (00_mix): an int or a text -/
def kV : Key → V
  | .inl i => .int i
  | .inr x => .str x

/-- what stands at a tracked address -/
inductive HO where
  /-- a list -/
  | lst (xs : List V)
  /-- a tuple (never changes) -/
  | tup (xs : List V)
  /-- a dict whose keys are ints and texts; one whose keys are tuples of ints and texts (the empty one is both) -/
  | dK (kvs : List (Key × V)) | dT (kvs : List (List Key × V))
  /-- a set of ints: its members, its size -/
  | set (S : Int → Bool) (n : Nat)
  /-- an instance of the class at C, its dict at dx, its attributes -/
  | ins (C dx : Addr) (fs : List (Str × V))
  /-- the dict of the instance at x -/
  | own (x : Addr)
  /-- the dict of an exception -/
  | xd (fs : List (Str × V))
  /-- a bound method, f of x -/
  | met (f x : Addr)
  /-- a range object lo, lo + 1, .. below hi -/
  | rng (lo hi : Int)
  /-- a thing that is known to the object (the script; a dict while a loop walks it): read, never written while it is so -/
  | frz (o : Obj) (u : HO)
  /-- a code object's table -/
  | tbl (ps : Array Value)
  /-- any other thing, by what is true of its one object (a def of one's own: SetO a S n := HO.ext fun h => ..) -/
  | ext (φ : Heap → Prop)

abbrev Hp := Addr → Option HO
def upd (H : Hp) (a : Addr) (o : HO) : Hp := fun b => if b = a then some o else H b
theorem upd_same {H : Hp} {a : Addr} {o : HO} : upd H a o a = some o := by unfold upd; rw [if_pos rfl]
theorem upd_ne {H : Hp} {a b : Addr} {o : HO} (h : b ≠ a) : upd H a o b = H b := by unfold upd; rw [if_neg h]
theorem upd_upd {H : Hp} {a : Addr} {o u : HO} : upd (upd H a o) a u = upd H a u := by
  funext b; unfold upd; split <;> rfl
/-- two objects of different content stand apart -/
theorem ne_of {H : Hp} {a b : Addr} {o u : HO} (h : H a = some o) (h' : H b = some u) (d : o ≠ u) : a ≠ b := by
  intro e; subst e; rw [h] at h'; exact d (Option.some.inj h')
theorem ne_of_none {H : Hp} {a b : Addr} {o : HO} (h : H a = some o) (h' : H b = none) : a ≠ b := by
  intro e; subst e; rw [h] at h'; cases h'

section
variable (P : Program) (w : World)
def ObjOk (H : Hp) (h : Heap) (a : Addr) : HO → Prop
  | .lst xs => xs.length ≤ sizeLine ∧ ∃ (its : List Value) (n : Nat), Vals xs its ∧ h.get? a = some { cls := .type "list", data := .seq its.toArray n }
  | .tup xs => xs.length ≤ sizeLine ∧ ∃ its : List Value, Vals xs its ∧ IsTup h a its.toArray
  | .dK kvs => kvs.length ≤ sizeLine ∧ (a == sysModules) = false ∧ ∃ vs, KV kvs vs ∧ h.DictOf (mixKind P w) a vs
  | .dT kvs => kvs.length ≤ sizeLine ∧ (a == sysModules) = false ∧ ∃ xs : List (List Key × Addr × Value),
      Paired (fun (p : List Key × V) (q : List Key × Addr × Value) => p.1 = q.1 ∧ H q.2.1 = some (.tup (p.1.map kV)) ∧ RelV p.2 q.2.2) kvs xs ∧
      ∃ o es ep, h.get? a = some o ∧ o.ExactDict ∧ o.data = .dict es ep ∧ es.toList = xs.map (entryOfKey (tupleKind (mixKind P w))) ∧ (xs.map (·.1)).Nodup
  | .set S n => h.SetOf (intKind P w) a S n
  | .ins C dx fs => H dx = some (.own a) ∧ fs.length ≤ 1000 ∧ dx ≠ a ∧ h.get? a = some (PySem.W.instObj C dx) ∧
      ∃ mA, h.Ns1 dx mA ∧ (∀ f, RelO (fs.lookup f) (mA f)) ∧ PySem.Within mA (fs.map (·.1))
  | .own _ => ∃ o, h.get? a = some o
  | .xd fs => ∃ mA, h.Ns1 a mA ∧ ∀ f, RelO (fs.lookup f) (mA f)
  | .rng lo hi => ∃ t u v, h.get? a = some { cls := .type "range", data := .fields #[.int lo t, .int hi u, .int 1 v] }
  | .frz o u => h.get? a = some o ∧ ObjOk H h a u
  | .tbl ps => h.get? a = some { cls := .none, data := .fields ps }
  | .met f x => h.get? a = some (PySem.W.methodObj (.ref f) (.ref x))
  | .ext φ => φ h ∧ (∃ o, h.get? a = some o) ∧ ∀ h1 h2 : Heap, φ h1 → (∀ o, h1.get? a = some o → h2.get? a = some o) → φ h2
/-- the abstract heap is held -/
def HOk (H : Hp) (h : Heap) : Prop := ∀ a o, H a = some o → ObjOk P w H h a o
end

section
variable {P : Program} {w : World} {H H' : Hp} {h h' : Heap} {a : Addr} {o : HO}
theorem ObjOk.lt (x : ObjOk P w H h a o) : a < h.objs.size := by
  cases o with
  | lst xs => obtain ⟨_, _, _, _, e⟩ := x; exact Heap.lt_size e
  | tup xs => obtain ⟨_, _, _, p⟩ := x; exact p.lt
  | dK kvs => obtain ⟨_, _, _, _, o, _, _, e, _⟩ := x; exact Heap.lt_size e
  | dT kvs => obtain ⟨_, _, _, _, o, _, _, e, _⟩ := x; exact Heap.lt_size e
  | set S n => obtain ⟨o, _, _, _, e, _⟩ := x; exact Heap.lt_size e
  | ins C dx fs => obtain ⟨_, _, _, e, _⟩ := x; exact Heap.lt_size e
  | own y => obtain ⟨_, e⟩ := x; exact Heap.lt_size e
  | xd fs => obtain ⟨_, ⟨_, _, _, e, _⟩, _⟩ := x; exact Heap.lt_size e
  | rng lo hi => obtain ⟨_, _, _, e⟩ := x; exact Heap.lt_size e
  | frz ob u => obtain ⟨e, _⟩ := x; exact Heap.lt_size e
  | tbl ps => exact Heap.lt_size (show h.get? a = some _ from x)
  | met f y => exact Heap.lt_size (show h.get? a = some _ from x)
  | ext φ => obtain ⟨_, ⟨_, e⟩, _⟩ := x; exact Heap.lt_size e
theorem Paired.mapP {α β : Type} {F G : α → β → Prop} : ∀ {l₁ : List α} {l₂ : List β}, Paired F l₁ l₂ → (∀ a b, F a b → G a b) → Paired G l₁ l₂
  | _, _, .nil, _ => .nil
  | _, _, .cons r t, f => .cons (f _ _ r) (Paired.mapP t f)
/-- what an object's description leans on: its own object, its own dict, the tuples -/
theorem ObjOk.stay (x : ObjOk P w H h a o) (k : ∀ b u, (b = a ∨ H b = some (.own a)) → h.get? b = some u → h'.get? b = some u)
    (ho : ∀ b, H b = some (.own a) → H' b = some (.own a)) (ht : ∀ b xs, H b = some (.tup xs) → H' b = some (.tup xs)) : ObjOk P w H' h' a o := by
  induction o with
  | lst xs => obtain ⟨z, its, n, r, e⟩ := x; exact ⟨z, its, n, r, k _ _ (.inl rfl) e⟩
  | tup xs => obtain ⟨z, its, r, ob, e, c⟩ := x; exact ⟨z, its, r, ob, k _ _ (.inl rfl) e, c⟩
  | dK kvs => obtain ⟨z, y, vs, r, ob, es, ep, e, c⟩ := x; exact ⟨z, y, vs, r, ob, es, ep, k _ _ (.inl rfl) e, c⟩
  | dT kvs =>
    obtain ⟨z, y, xs, r, ob, es, ep, e, c⟩ := x
    exact ⟨z, y, xs, Paired.mapP r fun p q z => ⟨z.1, ht _ _ z.2.1, z.2.2⟩, ob, es, ep, k _ _ (.inl rfl) e, c⟩
  | set S n => obtain ⟨ob, es, ep, t, e, c⟩ := x; exact ⟨ob, es, ep, t, k _ _ (.inl rfl) e, c⟩
  | ins C dx fs =>
    obtain ⟨d, z, ne, e, mA, ⟨od, es, ep, e2, c⟩, r⟩ := x
    exact ⟨ho _ d, z, ne, k _ _ (.inl rfl) e, mA, ⟨od, es, ep, k _ _ (.inr d) e2, c⟩, r⟩
  | own y => obtain ⟨ob, e⟩ := x; exact ⟨ob, k _ _ (.inl rfl) e⟩
  | xd fs => obtain ⟨mA, ⟨od, es, ep, e, c⟩, r⟩ := x; exact ⟨mA, ⟨od, es, ep, k _ _ (.inl rfl) e, c⟩, r⟩
  | rng lo hi => obtain ⟨t, u, v, e⟩ := x; exact ⟨t, u, v, k _ _ (.inl rfl) e⟩
  | frz ob u ih => obtain ⟨e, q⟩ := x; exact ⟨k _ _ (.inl rfl) e, ih q⟩
  | tbl ps =>
    have e : h.get? a = some { cls := .none, data := .fields ps } := x
    show h'.get? a = some { cls := .none, data := .fields ps }
    exact k a _ (.inl rfl) e
  | met f y =>
    have e : h.get? a = some (PySem.W.methodObj (.ref f) (.ref y)) := x
    show h'.get? a = some (PySem.W.methodObj (.ref f) (.ref y))
    exact k a _ (.inl rfl) e
  | ext φ => obtain ⟨p, ⟨o, e⟩, st⟩ := x; exact ⟨st _ _ p fun o q => k _ _ (.inl rfl) q, ⟨o, k _ _ (.inl rfl) e⟩, st⟩
theorem HOk.lt (x : HOk P w H h) (e : H a = some o) : a < h.objs.size := (x a o e).lt
theorem HOk.fresh (x : HOk P w H h) (e : h.objs.size ≤ a) : H a = none := by
  cases q : H a with
  | none => rfl
  | some u => exact absurd (Nat.lt_of_lt_of_le (x.lt q) e) (Nat.lt_irrefl _)
/-- every object of the heap is kept -/
theorem HOk.kept (x : HOk P w H h) (k : ∀ b u, h.get? b = some u → h'.get? b = some u) : HOk P w H h' := fun a o e =>
  (x a o e).stay (fun b u _ q => k b u q) (fun _ q => q) fun _ _ q => q
/-- a new object is laid and tracked -/
theorem HOk.laid (x : HOk P w H h) (k : ∀ b u, h.get? b = some u → h'.get? b = some u) (hp : h.objs.size ≤ a) (new : ObjOk P w (upd H a o) h' a o) : HOk P w (upd H a o) h' := fun b u e => by
  have hn := x.fresh hp
  by_cases hb : b = a
  · subst hb; rw [upd_same] at e; cases e; exact new
  · rw [upd_ne hb] at e
    exact (x b u e).stay (fun c v _ q => k c v q) (fun c q => by rw [upd_ne (ne_of_none q hn)]; exact q) fun c xs q => by rw [upd_ne (ne_of_none q hn)]; exact q
end

/-- what may be read as u: it is u, or a known u -/
def Rd (H : Hp) (a : Addr) (u : HO) : Prop := H a = some u ∨ ∃ o, H a = some (.frz o u)
theorem Rd.of {H : Hp} {a : Addr} {u : HO} (h : H a = some u) : Rd H a u := .inl h
theorem Rd.ok {P : Program} {w : World} {H : Hp} {h : Heap} {a : Addr} {u : HO} (r : Rd H a u) (x : HOk P w H h) : ObjOk P w H h a u := by
  rcases r with r | ⟨o, r⟩
  · exact x a u r
  · obtain ⟨_, q⟩ := x a _ r
    exact q
/-- what may be written -/
def Mut : Option HO → Prop
  | some (.lst _) => True
  | some (.dK _) => True
  | some (.dT _) => True
  | some (.set _ _) => True
  | some (.ins _ _ _) => True
  | some (.ext _) => True
  | _ => False
section
variable {P : Program} {w : World} {H : Hp} {h h' : Heap} {x e : Addr} {o' : HO}
/-- the object at e is changed: x itself, or the dict of the instance x -/
theorem HOk.write (ok : HOk P w H h) (mu : Mut (H x)) (he : e = x ∨ H e = some (.own x)) (k : ∀ b u, b ≠ e → h.get? b = some u → h'.get? b = some u) (heo : ∃ u, h'.get? e = some u)
    (new : ObjOk P w (upd H x o') h' x o') : HOk P w (upd H x o') h' := fun b u q => by
  have nown : ∀ c y, H c = some (.own y) → c ≠ x := fun c y r z => by subst z; rw [r] at mu; exact mu
  have ntup : ∀ c xs, H c = some (.tup xs) → c ≠ x := fun c xs r z => by subst z; rw [r] at mu; exact mu
  by_cases hb : b = x
  · subst hb; rw [upd_same] at q; cases q; exact new
  · rw [upd_ne hb] at q
    by_cases hbe : b = e
    · have q' : H b = some (.own x) := by
        rcases he with z | z
        · exact absurd (hbe.trans z) hb
        · rw [hbe]; exact z
      rw [q] at q'; cases q'
      obtain ⟨v, hv⟩ := heo
      exact ⟨v, by rw [hbe]; exact hv⟩
    · refine (ok b u q).stay (fun c v hc r => k c v ?_ r) (fun c r => by rw [upd_ne (nown c b r)]; exact r) fun c xs r => by rw [upd_ne (ntup c xs r)]; exact r
      rcases hc with rfl | hc
      · exact hbe
      · rintro rfl
        rcases he with z | z
        · exact nown c b hc z
        · rw [hc] at z; cases z; exact hb rfl
end

/-! ### kept unless tracked; of the frames at fs (the callers') the slots may change (an exception that passes writes there); of the records at ex (iterators) nothing is said -/
structure Un (fs ex : List Addr) (H H' : Hp) (h h' : Heap) : Prop where
  keep : ∀ b o, h.get? b = some o → H b = none → b ∉ fs → b ∉ ex → h'.get? b = some o
  slot : ∀ b o, h.get? b = some o → H b = none → b ∈ fs → b ∉ ex → ∃ sl, h'.get? b = some { o with slots := sl }
  free : ∀ b o, h.get? b = some o → H b = none → b ∉ ex → H' b = none
  there : ∀ b o, h.get? b = some o → b ∉ ex → ∃ o', h'.get? b = some o'
  tups : ∀ b xs, H b = some (.tup xs) → H' b = some (.tup xs)
  frzs : ∀ b o u, H b = some (.frz o u) → H' b = some (.frz o u)
  tbls : ∀ b ps, H b = some (.tbl ps) → ∃ more, H' b = some (.tbl (ps ++ more))
section
variable {fs fs' ex ex' : List Addr} {H H1 H2 : Hp} {h h1 h2 h' : Heap} {a x e : Addr} {o : HO}
theorem Un.any (u : Un fs ex H H1 h h1) {b : Addr} {ob : Obj} (q : h.get? b = some ob) (n : H b = none) (hx : b ∉ ex) : ∃ sl, h1.get? b = some { ob with slots := sl } := by
  by_cases hb : b ∈ fs
  · exact u.slot b ob q n hb hx
  · exact ⟨ob.slots, u.keep b ob q n hb hx⟩
theorem Un.trans (a : Un fs ex H H1 h h1) (b : Un fs ex H1 H2 h1 h2) : Un fs ex H H2 h h2 where
  keep := fun c ob q n hc hx => b.keep c ob (a.keep c ob q n hc hx) (a.free c ob q n hx) hc hx
  slot := fun c ob q n hc hx => by
    obtain ⟨sl, e1⟩ := a.slot c ob q n hc hx
    obtain ⟨sl', e2⟩ := b.slot c _ e1 (a.free c ob q n hx) hc hx
    exact ⟨sl', e2⟩
  free := fun c ob q n hx => by
    obtain ⟨o', e1⟩ := a.there c ob q hx
    exact b.free c o' e1 (a.free c ob q n hx) hx
  there := fun c ob q hx => by
    obtain ⟨o', e1⟩ := a.there c ob q hx
    exact b.there c o' e1 hx
  tups := fun c xs q => b.tups c xs (a.tups c xs q)
  frzs := fun c ob xs q => b.frzs c ob xs (a.frzs c ob xs q)
  tbls := fun c ps q => by
    obtain ⟨m1, e1⟩ := a.tbls c ps q
    obtain ⟨m2, e2⟩ := b.tbls c _ e1
    exact ⟨m1 ++ m2, by rw [e2, Array.append_assoc]⟩
theorem Un.kept (k : ∀ b u, h.get? b = some u → h'.get? b = some u) : Un fs ex H H h h' :=
  ⟨fun b ob q _ _ _ => k b ob q, fun b ob q _ _ _ => ⟨ob.slots, k b ob q⟩, fun _ _ _ n _ => n, fun b ob q _ => ⟨ob, k b ob q⟩, fun _ _ q => q, fun _ _ _ q => q, fun _ ps q => ⟨#[], by rw [q]; simp⟩⟩
theorem Un.refl : Un fs ex H H h h := Un.kept fun _ _ q => q
theorem Un.laid (k : ∀ b u, h.get? b = some u → h'.get? b = some u) (hp : h.objs.size ≤ a) (hn : H a = none) : Un fs ex H (upd H a o) h h' where
  keep := fun b u q _ _ _ => k b u q
  slot := fun b u q _ _ _ => ⟨u.slots, k b u q⟩
  free := fun b u q n _ => by rw [upd_ne (Nat.ne_of_lt (Nat.lt_of_lt_of_le (Heap.lt_size q) hp))]; exact n
  there := fun b u q _ => ⟨u, k b u q⟩
  tups := fun b xs q => by rw [upd_ne (ne_of_none q hn)]; exact q
  frzs := fun b u xs q => by rw [upd_ne (ne_of_none q hn)]; exact q
  tbls := fun b ps q => ⟨#[], by rw [upd_ne (ne_of_none q hn), q]; simp⟩
theorem Un.write (mu : Mut (H x)) (he : e = x ∨ H e = some (.own x)) (k : ∀ b u, b ≠ e → h.get? b = some u → h'.get? b = some u) (heo : ∃ u, h'.get? e = some u) : Un fs ex H (upd H x o) h h' := by
  have hx : ∀ b, H b = none → b ≠ x := fun b n z => by subst z; rw [n] at mu; exact mu
  have hb : ∀ b, H b = none → b ≠ e := fun b n z => by
    subst z
    rcases he with r | r
    · exact hx b n r
    · rw [n] at r; cases r
  have hm : ∀ b u, H b = some u → ¬ Mut (some u) → b ≠ x := fun b u q nm z => by subst z; rw [q] at mu; exact nm mu
  refine ⟨fun b u q n _ _ => k b u (hb b n) q, fun b u q n _ _ => ⟨u.slots, k b u (hb b n) q⟩, fun b u q n _ => by rw [upd_ne (hx b n)]; exact n, fun b u q _ => ?_,
    fun b xs q => by rw [upd_ne (hm b _ q fun z => z)]; exact q, fun b u xs q => by rw [upd_ne (hm b _ q fun z => z)]; exact q, fun b ps q => ⟨#[], by rw [upd_ne (hm b _ q fun z => z), q]; simp⟩⟩
  by_cases hbe : b = e
  · subst hbe; exact heo
  · exact ⟨u, k b u hbe q⟩
theorem Un.mono (u : Un fs ex H H1 h h1) (hs : ∀ b ∈ fs, b ∈ fs') (hx : ∀ b ∈ ex, b ∈ ex') : Un fs' ex' H H1 h h1 :=
  ⟨fun b ob q n hb he => u.keep b ob q n (fun z => hb (hs b z)) fun z => he (hx b z), fun _ _ q n _ he => u.any q n fun z => he (hx _ z), fun b ob q n he => u.free b ob q n fun z => he (hx b z), fun b ob q he => u.there b ob q fun z => he (hx b z), u.tups, u.frzs, u.tbls⟩
end

/-! ### the heap without what is tracked -/
def trk (h : Heap) (H : Hp) : List Addr := (List.range h.objs.size).filter fun a => (H a).isSome
def hidT (h : Heap) (H : Hp) : Heap := PySem.W.hideAll h (trk h H)
theorem hidT_size (h : Heap) (H : Hp) : (hidT h H).objs.size = h.objs.size := PySem.W.hideAll_size _ _
theorem hidT_get {h : Heap} {H : Hp} {b : Addr} {o : Obj} (e : h.get? b = some o) (n : H b = none) : (hidT h H).get? b = some o :=
  PySem.W.hideAll_get _ e fun hm => by
    have q : (H b).isSome = true := (List.mem_filter.mp hm).2
    rw [n] at q; simp at q
theorem of_hidT {h : Heap} {H : Hp} {b : Addr} {o : Obj} (e : (hidT h H).get? b = some o) : h.get? b = some o ∧ H b = none := by
  have e' : h.get? b = some o := PySem.W.of_hideAll (trk h H) e
  refine ⟨e', ?_⟩
  cases q : H b with
  | none => rfl
  | some x =>
    have hm : b ∈ trk h H := List.mem_filter.mpr ⟨List.mem_range.mpr (Heap.lt_size e'), by simp [q]⟩
    have z : (hidT h H).get? b = none := PySem.W.hideAll_none (trk h H) hm
    rw [z] at e; cases e

/-! ### OpenK's ledger, filled with every new object but one -/
def allNews (g h : Heap) (L : Addr) : List (Addr × Obj) := (List.range h.objs.size).filterMap fun a => if a = L ∨ (g.get? a).isSome = true then none else (h.get? a).map fun o => (a, o)
def rest (g h : Heap) (L d : Addr) : List (Addr × Obj) := (allNews g h L).filter fun p => decide (p.1 ≠ d)
end L2

namespace L2
open PySem PySem.Spec PyProof.Rows

/-- the module's facts, over the base: the heap at the law's entry without what is tracked there -/
structure Mod (K : PySem.W.Frag) (mg : Str → Option Value) (base : Heap) : Prop where
  kin : K.In base
  glob : base.Ns mainGlobals mg
  blt : ∃ mb, base.Ns builtinsNs mb ∧ ∀ x : Str, x ≠ "__name__" → mb x = bootBuiltins x
  nolimit : base.NoLimit

/-- the context: a def's body (or a comprehension's block) running. base: fixed through the whole law; s₀, H₀: the entry; outer: the frames whose slots others may change (a def's callers); stack: all frames that run;
   ex: iterators that were made ahead of the entry and are walked here (a comprehension's); fn: the names whose cells were made at the entry (a def: all; a comprehension's block: its own); calm: not within an except suite; pn: pins that every state bears; xe: what is wanted of an exception that leaves the code -/
structure Cx where
  prog : Program
  w : World
  K : PySem.W.Frag
  mg : Str → Option Value
  base : Heap
  A : Around
  N : List Str
  s_0 : Shared
  H_0 : Hp
  env : Env
  outer : List Env
  stack : List Env
  ex : List Addr
  fn : Str → Bool
  calm : Bool
  pn : List (Addr × Obj)
  xe : Value → Shared → Prop
/-- the callers' frames -/
def frs (l : List Env) : List Addr := l.filterMap (·.frame)
abbrev Cx.fs (X : Cx) : List Addr := frs X.outer

def Vis (sc : Scope) (x : Str) : Prop := sc.names.lookup x = some .local ∨ sc.names.lookup x = some .cell ∨ sc.names.lookup x = some .free
def Loc (sc : Scope) (x : Str) : Prop := sc.names.lookup x = some .local ∨ sc.names.lookup x = some .cell
def Look (env : Env) (h : Heap) (m : Str → Option Value) (x : Str) (u : Value) : Prop :=
  (env.kindOf x = some .local ∧ m x = some u) ∨ ((env.kindOf x = some .cell ∨ env.kindOf x = some .free) ∧ ∃ c, env.cells.lookup x = some c ∧ h.IsCell c (some u))

structure Cx.Ok (X : Cx) : Prop where
  mod : Mod X.K X.mg X.base
  kind : X.env.scope.kind = .function
  glob : X.env.globals = mainGlobals
  blt : X.env.builtins = builtinsNs
  above : X.s_0.heap.objs.size ≤ X.env.locals
  inj : ∀ x y c, X.env.cells.lookup x = some c → X.env.cells.lookup y = some c → x = y
  has : ∀ x, (X.env.kindOf x = some .cell ∨ X.env.kindOf x = some .free) → ∃ c, X.env.cells.lookup x = some c
  cab : ∀ x c, X.fn x = true → X.env.cells.lookup x = some c → X.s_0.heap.objs.size ≤ c
  hd : X.calm = true → X.A.handled = none
  frames : X.A.frames = some X.stack
  stk : X.stack = X.outer ∨ (X.stack = X.env :: X.outer ∧ X.env.frame = some X.env.locals)
  exf : ∀ b ∈ X.ex, b ≠ X.env.locals ∧ ∀ x c, X.env.cells.lookup x = some c → c ≠ b
  bs : ∀ b o, X.base.get? b = some o → X.s_0.heap.get? b = some o ∧ X.H_0 b = none
  bsz : X.base.objs.size ≤ X.s_0.heap.objs.size
  noex : ∀ b o, X.base.get? b = some o → b ∉ X.ex
  exfs : ∀ b ∈ X.ex, b ∉ X.fs
  funs : X.s_0.heap.FunFrames X.base X.outer
  frf : ∀ b ∈ X.fs, X.H_0 b = none

structure Inv (X : Cx) (pins : List (Addr × Obj)) (σ : List (Option V)) (H : Hp) (s : Shared) : Prop where
  ok : X.Ok
  os : s.os = X.s_0.os
  bare : AllBare s.gens
  base : Un X.fs X.ex X.H_0 H X.s_0.heap s.heap
  loc : ∃ m, s.heap.Ns X.env.locals m ∧ ∀ (i : Nat) (x : Str) (v : V), X.N[i]? = some x → σ[i]? = some (some v) → Vis X.env.scope x → ∃ u, RelV v u ∧ Look X.env s.heap m x u
  cell : ∀ x c, X.env.cells.lookup x = some c → ∃ v, s.heap.IsCell c v
  free : H X.env.locals = none
  freeC : ∀ x c, X.env.cells.lookup x = some c → H c = none
  pin : ∀ p ∈ X.pn ++ pins, s.heap.get? p.1 = some p.2 ∧ H p.1 = none ∧ p.1 ≠ X.env.locals ∧ p.1 ∉ X.fs ∧ ∀ v, p.2.data ≠ .cell v
  hok : HOk X.prog X.w H s.heap
  len : σ.length = X.N.length

section
variable {X : Cx} {pins : List (Addr × Obj)} {σ : List (Option V)} {H H' : Hp} {s : Shared} {h' : Heap}

theorem Cx.Ok.nofr (ok : X.Ok) {b : Addr} {o : Obj} (e : X.base.get? b = some o) : b ∉ X.fs := fun hb => by
  have := (ok.funs.mem hb).1
  rw [e] at this; cases this
theorem Inv.bs (I : Inv X pins σ H s) : ∀ b o, X.base.get? b = some o → s.heap.get? b = some o ∧ H b = none := fun b o e =>
  ⟨I.base.keep b o (I.ok.bs b o e).1 (I.ok.bs b o e).2 (I.ok.nofr e) (I.ok.noex b o e), I.base.free b o (I.ok.bs b o e).1 (I.ok.bs b o e).2 (I.ok.noex b o e)⟩
theorem Inv.bk (I : Inv X pins σ H s) : ∀ b o, X.base.get? b = some o → s.heap.get? b = some o := fun b o e => (I.bs b o e).1
theorem Inv.mod (I : Inv X pins σ H s) : Mod X.K X.mg X.base := I.ok.mod
theorem Inv.kIn (I : Inv X pins σ H s) : X.K.In s.heap := I.ok.mod.kin.keeps I.bk
theorem Inv.nolimit (I : Inv X pins σ H s) : s.heap.NoLimit := I.ok.mod.nolimit.keeps I.bk
theorem Inv.lt (I : Inv X pins σ H s) : X.env.locals < s.heap.objs.size := let ⟨_, hn, _⟩ := I.loc; hn.lt
theorem Inv.sz (I : Inv X pins σ H s) : X.s_0.heap.objs.size ≤ s.heap.objs.size := Nat.le_trans I.ok.above (Nat.le_of_lt I.lt)
theorem Inv.nofs (I : Inv X pins σ H s) {a : Addr} (h : s.heap.objs.size ≤ a) : a ∉ X.fs := fun hb => by
  obtain ⟨_, o, ho, _⟩ := I.ok.funs.mem hb
  exact absurd (Nat.lt_of_lt_of_le (Heap.lt_size ho) (Nat.le_trans I.sz h)) (Nat.lt_irrefl _)
theorem Inv.cne (I : Inv X pins σ H s) : ∀ x c, X.env.cells.lookup x = some c → c ≠ X.env.locals := fun x c e z => by
  obtain ⟨v, o, ho, hd⟩ := I.cell x c e
  obtain ⟨m, ⟨o', es, ep, ho', hd', _⟩, _⟩ := I.loc
  rw [z, ho'] at ho; cases ho; rw [hd'] at hd; cases hd
theorem Inv.funs (I : Inv X pins σ H s) : s.heap.FunFrames X.base X.outer := by
  have all : ∀ (l : List Env), (∀ b ∈ frs l, b ∈ X.fs) → X.s_0.heap.FunFrames X.base l → s.heap.FunFrames X.base l := by
    intro l
    induction l with
    | nil => intro _ _; trivial
    | cons env r ih =>
      intro hs hl
      obtain ⟨hk, ⟨L, o, hf, hn, ho, hd⟩, hr⟩ := hl
      have hL : L ∈ X.fs := hs L (by unfold frs; rw [List.filterMap_cons, hf]; exact List.mem_cons_self)
      obtain ⟨sl, e⟩ := I.base.slot L o ho (I.ok.frf L hL) hL fun z => I.ok.exfs L z hL
      exact ⟨hk, ⟨L, _, hf, hn, e, hd⟩, ih (fun b hb => hs b (by unfold frs; rw [List.filterMap_cons, hf]; exact List.mem_cons_of_mem _ hb)) hr⟩
  exact all X.outer (fun _ hb => hb) I.ok.funs

/-- the frames that run, for a call -/
theorem Inv.stack (I : Inv X pins σ H s) : s.heap.FunFrames X.base X.stack := by
  rcases I.ok.stk with e | ⟨e, hf⟩
  · rw [e]; exact I.funs
  · rw [e]
    obtain ⟨m, hn, _⟩ := I.loc
    refine .cons (by rw [I.ok.kind]; decide) hf hn ?_ I.funs
    exact Heap.get?_none_of_le (Nat.le_trans I.ok.bsz I.ok.above)
theorem Inv.stkSub (I : Inv X pins σ H s) : ∀ b ∈ frs X.stack, b ∈ X.env.locals :: X.fs := fun b hb => by
  rcases I.ok.stk with e | ⟨e, hf⟩
  · rw [e] at hb; exact List.mem_cons_of_mem _ hb
  · rw [e] at hb
    unfold frs at hb
    rw [List.filterMap_cons, hf] at hb
    exact hb
theorem Inv.stkFree (I : Inv X pins σ H s) : ∀ b ∈ frs X.stack, H b = none := fun b hb => by
  rcases List.mem_cons.mp (I.stkSub b hb) with e | hb
  · rw [e]; exact I.free
  · obtain ⟨_, o, ho, _⟩ := I.ok.funs.mem hb
    exact I.base.free b o ho (I.ok.frf b hb) fun z => I.ok.exfs b z hb

/-- THE STEP: the untracked objects but the frame and the records at ch are kept (the callers' frames up to slots), the frame's map is kept, the new abstract heap is held -/
theorem Inv.step {g' : Array GenState} {t' : Nat} {d' : Drawn} {ch : List Addr} (I : Inv X pins σ H s)
    (hch : ∀ b ∈ ch, (b ∈ X.ex ∨ X.s_0.heap.objs.size ≤ b) ∧ b ≠ X.env.locals ∧ (∀ x c, X.env.cells.lookup x = some c → c ≠ b) ∧ ∀ p ∈ X.pn ++ pins, p.1 ≠ b)
    (keep : ∀ b o, b ≠ X.env.locals → b ∉ X.fs → b ∉ ch → s.heap.get? b = some o → H b = none → h'.get? b = some o)
    (slot : ∀ b o, b ≠ X.env.locals → b ∈ X.fs → b ∉ ch → s.heap.get? b = some o → H b = none → ∃ sl, h'.get? b = some { o with slots := sl }) (free : ∀ b o, b ∉ ch → s.heap.get? b = some o → H b = none → H' b = none)
    (there : ∀ b o, b ∉ ch → s.heap.get? b = some o → ∃ o', h'.get? b = some o')
    (tups : ∀ b xs, H b = some (.tup xs) → H' b = some (.tup xs)) (frzs : ∀ b o u, H b = some (.frz o u) → H' b = some (.frz o u)) (tbls : ∀ b ps, H b = some (.tbl ps) → ∃ more, H' b = some (.tbl (ps ++ more)))
    (ns : ∀ m, s.heap.Ns X.env.locals m → h'.Ns X.env.locals m) (hok : HOk X.prog X.w H' h') (hg : AllBare g') :
    Inv X pins σ H' { s with heap := h', gens := g', drawn := d', toks := t' } := by
  have neL : ∀ b o, X.s_0.heap.get? b = some o → b ≠ X.env.locals := fun b o e => Nat.ne_of_lt (Nat.lt_of_lt_of_le (Heap.lt_size e) I.ok.above)
  have neC : ∀ b o, X.s_0.heap.get? b = some o → b ∉ X.ex → b ∉ ch := fun b o e hx hb => by
    rcases (hch b hb).1 with z | z
    · exact hx z
    · exact absurd (Nat.lt_of_lt_of_le (Heap.lt_size e) z) (Nat.lt_irrefl _)
  have cellK : ∀ x c, X.env.cells.lookup x = some c → ∀ v, s.heap.IsCell c v → h'.IsCell c v := fun x c e v ⟨o, ho, hd⟩ => by
    have nch : c ∉ ch := fun z => (hch c z).2.2.1 x c e rfl
    by_cases hc : c ∈ X.fs
    · obtain ⟨sl, q⟩ := slot c o (I.cne x c e) hc nch ho (I.freeC x c e)
      exact ⟨_, q, hd⟩
    · exact ⟨o, keep c o (I.cne x c e) hc nch ho (I.freeC x c e), hd⟩
  refine ⟨I.ok, I.os, hg, ⟨fun b o e n hb hx => ?_, fun b o e n hb hx => ?_, fun b o e n hx => ?_, fun b o e hx => ?_, fun b xs e => tups b xs (I.base.tups b xs e), fun b o xs e => frzs b o xs (I.base.frzs b o xs e), fun b ps e => ?_⟩, ?_, fun x c e => ?_, ?_, fun x c e => ?_, fun p hp => ?_, hok, I.len⟩
  · exact keep b o (neL b o e) hb (neC b o e hx) (I.base.keep b o e n hb hx) (I.base.free b o e n hx)
  · obtain ⟨sl, e1⟩ := I.base.slot b o e n hb hx
    obtain ⟨sl', e2⟩ := slot b _ (neL b o e) hb (neC b o e hx) e1 (I.base.free b o e n hx)
    exact ⟨sl', e2⟩
  · obtain ⟨o', e1⟩ := I.base.there b o e hx
    exact free b o' (neC b o e hx) e1 (I.base.free b o e n hx)
  · obtain ⟨o', e1⟩ := I.base.there b o e hx
    exact there b o' (neC b o e hx) e1
  · obtain ⟨m1, e1⟩ := I.base.tbls b ps e
    obtain ⟨m2, e2⟩ := tbls b _ e1
    exact ⟨m1 ++ m2, by rw [e2, Array.append_assoc]⟩
  · obtain ⟨m, hn, hl⟩ := I.loc
    refine ⟨m, ns m hn, fun i x v e1 e2 e3 => ?_⟩
    obtain ⟨u, r, l⟩ := hl i x v e1 e2 e3
    refine ⟨u, r, ?_⟩
    rcases l with l | ⟨k, c, e, z⟩
    · exact .inl l
    · exact .inr ⟨k, c, e, cellK x c e _ z⟩
  · obtain ⟨v, z⟩ := I.cell x c e
    exact ⟨v, cellK x c e v z⟩
  · obtain ⟨m, ⟨o, _, _, ho, _⟩, _⟩ := I.loc
    exact free _ o (fun z => (hch _ z).2.1 rfl) ho I.free
  · obtain ⟨v, o, ho, hd⟩ := I.cell x c e
    exact free c o (fun z => (hch c z).2.2.1 x c e rfl) ho (I.freeC x c e)
  · obtain ⟨e, n, ne, nf, d⟩ := I.pin p hp
    have nch : p.1 ∉ ch := fun z => (hch p.1 z).2.2.2 p hp rfl
    exact ⟨keep p.1 p.2 ne nf nch e n, free p.1 p.2 nch e n, ne, nf, d⟩
/-- .. where the frame's own object is kept too -/
theorem Inv.un {t' : Nat} (I : Inv X pins σ H s) (u : Un X.fs [] H H' s.heap h') (hok : HOk X.prog X.w H' h') : Inv X pins σ H' { s with heap := h', toks := t' } := by
  obtain ⟨m, ⟨o, es, ep, ho, r⟩, _⟩ := id I.loc
  obtain ⟨sl, hL⟩ := u.any ho I.free (by simp)
  exact I.step (g' := s.gens) (d' := s.drawn) (ch := []) (fun _ z => nomatch z) (fun b o _ hb _ e n => u.keep b o e n hb (by simp)) (fun b o _ hb _ e n => u.slot b o e n hb (by simp)) (fun b o _ e n => u.free b o e n (by simp)) (fun b o _ e => u.there b o e (by simp)) u.tups u.frzs u.tbls (fun m' hm => by
    obtain ⟨o', es', ep', ho', r'⟩ := hm
    rw [ho] at ho'; cases ho'
    exact ⟨_, es', ep', hL, r'⟩) hok I.bare
/-- behind a call (or a comprehension's block): the slots of this frame may have changed too, the records at ch may have turned -/
theorem Inv.call {g' : Array GenState} {t' : Nat} {d' : Drawn} {ch : List Addr} (I : Inv X pins σ H s) (u : Un (frs X.stack) ch H H' s.heap h') (hok : HOk X.prog X.w H' h') (hg : AllBare g')
    (hch : ∀ b ∈ ch, (b ∈ X.ex ∨ X.s_0.heap.objs.size ≤ b) ∧ b ≠ X.env.locals ∧ (∀ x c, X.env.cells.lookup x = some c → c ≠ b) ∧ ∀ p ∈ X.pn ++ pins, p.1 ≠ b) :
    Inv X pins σ H' { s with heap := h', gens := g', drawn := d', toks := t' } := by
  obtain ⟨m, ⟨o, es, ep, ho, r⟩, _⟩ := id I.loc
  obtain ⟨sl, hL⟩ := u.any ho I.free fun z => (hch _ z).2.1 rfl
  exact I.step (ch := ch) hch (fun b o hL hb hc e n => u.keep b o e n (fun z => (List.mem_cons.mp (I.stkSub b z)).elim hL hb) hc) (fun b o _ _ hc e n => u.any e n hc) (fun b o hc e n => u.free b o e n hc) (fun b o hc e => u.there b o e hc) u.tups u.frzs u.tbls (fun m' hm => by
    obtain ⟨o', es', ep', ho', r'⟩ := hm
    rw [ho] at ho'; cases ho'
    exact ⟨_, es', ep', hL, r'⟩) hok hg
/-- an untracked record of ours (an iterator) has turned -/
theorem Inv.turned {t' : Nat} {it : Addr} (I : Inv X pins σ H s) (k : ∀ b o, b ≠ it → s.heap.get? b = some o → h'.get? b = some o) (hn : H it = none) (hL : it ≠ X.env.locals)
    (h1 : it ∈ X.ex ∨ X.s_0.heap.objs.size ≤ it) (h2 : ∀ x c, X.env.cells.lookup x = some c → c ≠ it) (h3 : ∀ p ∈ X.pn ++ pins, p.1 ≠ it) : Inv X pins σ H { s with heap := h', toks := t' } := by
  have nit : ∀ b u, H b = some u → b ≠ it := fun b u e z => by rw [z, hn] at e; cases e
  refine I.step (g' := s.gens) (d' := s.drawn) (ch := [it]) (fun b hb => ?_) (fun b o _ _ hc e _ => k b o (fun z => hc (by simp [z])) e) (fun b o _ _ hc e _ => ⟨o.slots, k b o (fun z => hc (by simp [z])) e⟩) (fun _ _ _ _ n => n)
    (fun b o hc e => ⟨o, k b o (fun z => hc (by simp [z])) e⟩) (fun _ _ e => e) (fun _ _ _ e => e) (fun b ps e => ⟨#[], by rw [e]; simp⟩) (fun m hm => ?_) (fun b u e => ?_) I.bare
  · have e : b = it := by simpa using hb
    subst e
    exact ⟨h1, hL, h2, h3⟩
  · obtain ⟨o, es, ep, ho, r⟩ := hm
    exact ⟨o, es, ep, k _ o (Ne.symm hL) ho, r⟩
  · refine (I.hok b u e).stay (fun c v hc q => k c v ?_ q) (fun _ q => q) fun _ _ q => q
    rcases hc with z | z
    · rw [z]; exact nit b u e
    · exact nit c _ z
theorem Inv.tok (I : Inv X pins σ H s) (t : Nat) : Inv X pins σ H { s with toks := t } := I.un (h' := s.heap) (t' := t) Un.refl I.hok
/-- all objects kept -/
theorem Inv.kept {t' : Nat} (I : Inv X pins σ H s) (k : ∀ b u, s.heap.get? b = some u → h'.get? b = some u) : Inv X pins σ H { s with heap := h', toks := t' } := I.un (Un.kept k) (I.hok.kept k)
/-- a new object laid and tracked -/
theorem Inv.laid {a : Addr} {o : HO} {t' : Nat} (I : Inv X pins σ H s) (k : ∀ b u, s.heap.get? b = some u → h'.get? b = some u) (hp : s.heap.objs.size ≤ a) (new : ObjOk X.prog X.w (upd H a o) h' a o) :
    Inv X pins σ (upd H a o) { s with heap := h', toks := t' } := I.un (Un.laid k hp (I.hok.fresh hp)) (I.hok.laid k hp new)
/-- an object written -/
theorem Inv.write {x e : Addr} {o : HO} {t' : Nat} (I : Inv X pins σ H s) (mu : Mut (H x)) (he : e = x ∨ H e = some (.own x)) (k : ∀ b u, b ≠ e → s.heap.get? b = some u → h'.get? b = some u) (heo : ∃ u, h'.get? e = some u)
    (new : ObjOk X.prog X.w (upd H x o) h' x o) : Inv X pins σ (upd H x o) { s with heap := h', toks := t' } := I.un (Un.write mu he k heo) (I.hok.write mu he k heo new)
/-- forgetting slots, pins -/
theorem Inv.weak {σ' : List (Option V)} (I : Inv X pins σ H s) (hl : σ'.length = σ.length) (w : ∀ (i : Nat) v, σ'[i]? = some (some v) → σ[i]? = some (some v)) : Inv X pins σ' H s :=
  ⟨I.ok, I.os, I.bare, I.base, let ⟨m, hn, hl'⟩ := I.loc; ⟨m, hn, fun i x v e1 e2 e3 => hl' i x v e1 (w i v e2) e3⟩, I.cell, I.free, I.freeC, I.pin, I.hok, hl.trans I.len⟩
theorem Inv.pins_of {pins' : List (Addr × Obj)} (I : Inv X pins σ H s) (h : ∀ p ∈ pins', s.heap.get? p.1 = some p.2 ∧ H p.1 = none ∧ p.1 ≠ X.env.locals ∧ p.1 ∉ X.fs ∧ ∀ v, p.2.data ≠ .cell v) : Inv X pins' σ H s :=
  ⟨I.ok, I.os, I.bare, I.base, I.loc, I.cell, I.free, I.freeC, fun p hp => (List.mem_append.mp hp).elim (fun z => I.pin p (List.mem_append_left _ z)) (h p), I.hok, I.len⟩

theorem nodup_ix {N : List Str} (hN : N.Nodup) {i j : Nat} {x : Str} (a : N[i]? = some x) (b : N[j]? = some x) : i = j := by
  obtain ⟨h1, e1⟩ := List.getElem?_eq_some_iff.mp a
  obtain ⟨h2, e2⟩ := List.getElem?_eq_some_iff.mp b
  exact (List.getElem_inj hN).mp (e1.trans e2.symm)

/-- a name is stored; what changed -/
theorem store_ok2 {M : Model} {A : Around} {E : Value → Shared → Prop} {i : Nat} {x : Str} {v : V} {u : Value} {Q : Unit → Shared → Prop} (I : Inv X pins σ H s) (hN : X.N.Nodup) (hi : X.N[i]? = some x) (hx : Loc X.env.scope x) (r : RelV v u)
    (h : ∀ s', Inv X pins (σ.set i (some v)) H s' → (∃ a, Heap.SameBut a s.heap s'.heap ∧ (a = X.env.locals ∨ X.env.cells.lookup x = some a)) → Q () s') (hf : X.fn x = true ∨ X.env.scope.names.lookup x = some .local := by first | exact .inl rfl | exact .inr rfl | assumption) : wpAny M A (storeName X.env x u) Q E s := by
  obtain ⟨m, hn, hl⟩ := id I.loc
  have hcls : (X.env.scope.kind == .class || (X.env.scope.kind == .module && X.env.locals != X.env.globals)) = false := by rw [I.ok.kind]; rfl
  have hiσ : i < σ.length := by rw [I.len]; exact (List.getElem?_eq_some_iff.mp hi).1
  have cne := I.cne
  have tracked : ∀ {a : Addr} {h' : Heap}, (∃ o, s.heap.get? a = some o ∧ H a = none) → Heap.SameBut a s.heap h' → HOk X.prog X.w H h' := fun {a h'} ha hs b ob e => by
    obtain ⟨_, _, hfree⟩ := ha
    refine (I.hok b ob e).stay (fun c w' hc q => (hs.2 c ?_).trans q) (fun _ q => q) fun _ _ q => q
    rintro rfl
    rcases hc with rfl | hc
    · rw [hfree] at e; cases e
    · rw [hfree] at hc; cases hc
  rcases hx with hk | hk
  · refine wpAny_storeName_local hk hn (fun h' hn' hs => ?_) hcls
    obtain ⟨oL, _, _, hoL, _⟩ := id hn
    refine h _ ⟨I.ok, I.os, I.bare, ⟨fun b o e n hb hx => ?_, fun b o e n hb hx => ?_, I.base.free, fun b o e hx => ?_, I.base.tups, I.base.frzs, I.base.tbls⟩, ⟨_, hn', fun j y v' e1 e2 e3 => ?_⟩, fun y c e => ?_, I.free, I.freeC, fun p hp => ?_, tracked ⟨oL, hoL, I.free⟩ hs, by simpa using I.len⟩ ⟨_, hs, .inl rfl⟩
    · exact (hs.2 b (Nat.ne_of_lt (Nat.lt_of_lt_of_le (Heap.lt_size e) I.ok.above))).trans (I.base.keep b o e n hb hx)
    · obtain ⟨sl, e1⟩ := I.base.slot b o e n hb hx
      exact ⟨sl, (hs.2 b (Nat.ne_of_lt (Nat.lt_of_lt_of_le (Heap.lt_size e) I.ok.above))).trans e1⟩
    · obtain ⟨o', e1⟩ := I.base.there b o e hx
      exact ⟨o', (hs.2 b (Nat.ne_of_lt (Nat.lt_of_lt_of_le (Heap.lt_size e) I.ok.above))).trans e1⟩
    · by_cases hj : j = i
      · subst hj
        rw [hi] at e1; cases e1
        rw [List.getElem?_set_self hiσ] at e2
        cases e2
        exact ⟨u, r, .inl ⟨hk, by simp⟩⟩
      · rw [List.getElem?_set_ne (Ne.symm hj)] at e2
        obtain ⟨u', r', q⟩ := hl j y v' e1 e2 e3
        refine ⟨u', r', ?_⟩
        rcases q with ⟨k, e⟩ | ⟨k, c, e, z⟩
        · refine .inl ⟨k, ?_⟩
          have : y ≠ x := fun e => hj (nodup_ix hN e1 (e ▸ hi))
          simp [this, e]
        · exact .inr ⟨k, c, e, z.sameBut hs (cne y c e)⟩
    · obtain ⟨w', z⟩ := I.cell y c e
      exact ⟨w', z.sameBut hs (cne y c e)⟩
    · obtain ⟨e, n, ne, nf, d⟩ := I.pin p hp
      exact ⟨(hs.2 p.1 ne).trans e, n, ne, nf, d⟩
  · have hfn : X.fn x = true := by
      rcases hf with z | z
      · exact z
      · rw [z] at hk; cases hk
    obtain ⟨c, hc⟩ := I.ok.has x (.inl hk)
    obtain ⟨w', z⟩ := I.cell x c hc
    refine wpAny_storeName_cell I.ok.kind hk hc z (fun h' hc' hs => ?_)
    obtain ⟨oc, hoc, hocd⟩ := id z
    refine h { s with heap := h' } ⟨I.ok, I.os, I.bare, ⟨fun b o e n hb hx => ?_, fun b o e n hb hx => ?_, I.base.free, fun b o e hx => ?_, I.base.tups, I.base.frzs, I.base.tbls⟩, ⟨m, hn.sameBut hs (Ne.symm (cne x c hc)), fun j y v' e1 e2 e3 => ?_⟩, fun y c' e => ?_, I.free, I.freeC, fun p hp => ?_, tracked ⟨oc, hoc, I.freeC x c hc⟩ hs, by simpa using I.len⟩ ⟨c, hs, .inr hc⟩
    · exact (hs.2 b (Nat.ne_of_lt (Nat.lt_of_lt_of_le (Heap.lt_size e) (I.ok.cab x c hfn hc)))).trans (I.base.keep b o e n hb hx)
    · obtain ⟨sl, e1⟩ := I.base.slot b o e n hb hx
      exact ⟨sl, (hs.2 b (Nat.ne_of_lt (Nat.lt_of_lt_of_le (Heap.lt_size e) (I.ok.cab x c hfn hc)))).trans e1⟩
    · obtain ⟨o', e1⟩ := I.base.there b o e hx
      exact ⟨o', (hs.2 b (Nat.ne_of_lt (Nat.lt_of_lt_of_le (Heap.lt_size e) (I.ok.cab x c hfn hc)))).trans e1⟩
    · by_cases hj : j = i
      · subst hj
        rw [hi] at e1; cases e1
        rw [List.getElem?_set_self hiσ] at e2
        cases e2
        exact ⟨u, r, .inr ⟨.inl hk, c, hc, hc'⟩⟩
      · rw [List.getElem?_set_ne (Ne.symm hj)] at e2
        obtain ⟨u', r', q⟩ := hl j y v' e1 e2 e3
        refine ⟨u', r', ?_⟩
        rcases q with q | ⟨k, c', e, z'⟩
        · exact .inl q
        · refine .inr ⟨k, c', e, z'.sameBut hs ?_⟩
          rintro rfl
          exact hj (nodup_ix hN e1 (I.ok.inj _ _ _ e hc ▸ hi))
    · by_cases hcc : c' = c
      · subst hcc; exact ⟨_, hc'⟩
      · obtain ⟨w2, z2⟩ := I.cell y c' e
        exact ⟨w2, z2.sameBut hs hcc⟩
    · obtain ⟨e, n, ne, nf, d⟩ := I.pin p hp
      refine ⟨(hs.2 p.1 ?_).trans e, n, ne, nf, d⟩
      intro q
      rw [q, hoc] at e
      have q' : oc = p.2 := Option.some.inj e
      exact d w' (by rw [← q']; exact hocd)
theorem store_ok {M : Model} {A : Around} {E : Value → Shared → Prop} {i : Nat} {x : Str} {v : V} {u : Value} {Q : Unit → Shared → Prop} (I : Inv X pins σ H s) (hN : X.N.Nodup) (hi : X.N[i]? = some x) (hx : Loc X.env.scope x) (r : RelV v u)
    (h : ∀ s', Inv X pins (σ.set i (some v)) H s' → Q () s') (hf : X.fn x = true ∨ X.env.scope.names.lookup x = some .local := by first | exact .inl rfl | exact .inr rfl | assumption) : wpAny M A (storeName X.env x u) Q E s :=
  store_ok2 I hN hi hx r (fun s' I' _ => h s' I') hf
/-- behind a call or a block, the state as it is -/
theorem Inv.call' {s' : Shared} {ch : List Addr} (I : Inv X pins σ H s) (ho : s'.os = s.os) (u : Un (frs X.stack) ch H H' s.heap s'.heap) (hok : HOk X.prog X.w H' s'.heap) (hg : AllBare s'.gens)
    (hch : ∀ b ∈ ch, (b ∈ X.ex ∨ X.s_0.heap.objs.size ≤ b) ∧ b ≠ X.env.locals ∧ (∀ x c, X.env.cells.lookup x = some c → c ≠ b) ∧ ∀ p ∈ X.pn ++ pins, p.1 ≠ b) : Inv X pins σ H' s' := by
  obtain ⟨h', g', d', t', o'⟩ := s'
  have e : o' = s.os := ho
  subst e
  exact I.call (g' := g') (t' := t') (d' := d') u hok hg hch
end

/-! ### the judgements -/
/-- an exception: its class, its own dict's address (where it has one), the abstract heap behind it -/
abbrev XK := Value → Option Addr → Hp → Prop
abbrev St := List (Option V)
abbrev VK := V → Hp → Prop
/-- an expression's reading; a test's; an argument list's -/
abbrev TE := St → Hp → VK → Prop
abbrev TT := St → Hp → (Bool → Hp → Prop) → Prop
abbrev TA := St → Hp → (List V → Hp → Prop) → Prop
/-- what is wanted behind a statement -/
structure Ends where
  nx : St → Hp → Prop
  rt : VK
  bk : St → Hp → Prop := fun _ _ => False
  ct : St → Hp → Prop := fun _ _ => False
abbrev TS := Ends → St → Hp → Prop

def EP (X : Cx) (pins : List (Addr × Obj)) (σ : St) (Q : VK) (u : Value) (s' : Shared) : Prop := ∃ v H', Inv X pins σ H' s' ∧ RelV v u ∧ Q v H'
def TP (X : Cx) (pins : List (Addr × Obj)) (σ : St) (Q : Bool → Hp → Prop) (b : Bool) (s' : Shared) : Prop := ∃ H', Inv X pins σ H' s' ∧ Q b H'
def AP (X : Cx) (pins : List (Addr × Obj)) (σ : St) (Q : List V → Hp → Prop) (us : List Value) (s' : Shared) : Prop := ∃ vs H', Inv X pins σ H' s' ∧ Vals vs us ∧ Q vs H'
def SP (X : Cx) (pins : List (Addr × Obj)) (D : Ends) (f : Flow) (s' : Shared) : Prop :=
  match f with
  | .next => ∃ σ' H', Inv X pins σ' H' s' ∧ D.nx σ' H'
  | .brk => ∃ σ' H', Inv X pins σ' H' s' ∧ D.bk σ' H'
  | .cont => ∃ σ' H', Inv X pins σ' H' s' ∧ D.ct σ' H'
  | .ret u => ∃ v σ' H', Inv X pins σ' H' s' ∧ RelV v u ∧ D.rt v H'

def PE (X : Cx) (e : Expr) (t : TE) : Prop :=
  ∀ (pins : List (Addr × Obj)) (s : Shared) (σ : St) (H : Hp) (Q : VK), Inv X pins σ H s → t σ H Q → wpAny (model X.prog X.w) X.A (eval e X.env) (EP X pins σ Q) X.xe s
def PT (X : Cx) (e : Expr) (t : TT) : Prop :=
  ∀ (pins : List (Addr × Obj)) (s : Shared) (σ : St) (H : Hp) (Q : Bool → Hp → Prop), Inv X pins σ H s → t σ H Q → wpAny (model X.prog X.w) X.A (isTrue e X.env (eval e X.env)) (TP X pins σ Q) X.xe s
/-- a test whatever its 'whole' is (and, or) -/
def PW (X : Cx) (e : Expr) (t : TT) : Prop :=
  ∀ (whole : Sem Value) (pins : List (Addr × Obj)) (s : Shared) (σ : St) (H : Hp) (Q : Bool → Hp → Prop), Inv X pins σ H s → t σ H Q → wpAny (model X.prog X.w) X.A (isTrue e X.env whole) (TP X pins σ Q) X.xe s
theorem PW.pt {X : Cx} {e : Expr} {t : TT} (h : PW X e t) : PT X e t := h _
/-- an argument list (no star), from the left -/
def PA (X : Cx) (es : List Expr) (t : TA) : Prop :=
  ∀ (pos : Pos) (pins : List (Addr × Obj)) (s : Shared) (σ : St) (H : Hp) (Q : List V → Hp → Prop), Inv X pins σ H s → t σ H Q → wpAny (model X.prog X.w) X.A (spliced (backTo pos (starEach es X.env))) (AP X pins σ Q) X.xe s
def PS (X : Cx) (st : Stmt) (t : TS) : Prop :=
  ∀ (pins : List (Addr × Obj)) (s : Shared) (σ : St) (H : Hp) (D : Ends), Inv X pins σ H s → t D σ H → wpAny (model X.prog X.w) X.A (exec st X.env) (SP X pins D) X.xe s
def PSs (X : Cx) (st : List Stmt) (t : TS) : Prop :=
  ∀ (pins : List (Addr × Obj)) (s : Shared) (σ : St) (H : Hp) (D : Ends), Inv X pins σ H s → t D σ H → wpAny (model X.prog X.w) X.A (execs st X.env) (SP X pins D) X.xe s
/-- weaken the end -/
theorem thn {α : Type} {t : Sem α} {Q Q' : α → Shared → Prop} {M : Model} {A : Around} {E : Value → Shared → Prop} {s : Shared} (h : wpAny M A t Q E s) (hQ : ∀ a s, Q a s → Q' a s) : wpAny M A t Q' E s := wpAny_mono h hQ fun _ _ x => x
end L2

namespace L2
open PySem PySem.Spec PyProof.Rows
section
variable {X : Cx}


/-! ### names and constants -/
def tVar (i : Nat) : TE := fun σ H Q => ∃ v, σ[i]? = some (some v) ∧ Q v H
def tC (v : V) : TE := fun _ H Q => Q v H
theorem pe_var {i : Nat} {x : Str} {pos : Pos} (hN : X.N[i]? = some x) (hv : Vis X.env.scope x) (hd : (x == ("__debug__" : Str)) = false := by decide) (hcd : (x == ("__classdict__" : Str)) = false := by decide) : PE X (.Name x pos) (tVar i) := by
  intro pins s σ H Q I h
  obtain ⟨v, e, h⟩ := h
  obtain ⟨m, hn, hl⟩ := I.loc
  obtain ⟨u, r, l⟩ := hl i x v hN e hv
  have fin : EP X pins σ Q u s := ⟨v, H, I, r, h⟩
  rcases l with ⟨hk, hm⟩ | ⟨hk, c, hc, hcell⟩
  · exact wpAny_Name (wpAny_loadName_local I.ok.kind hk hn hm fin) hd
  · rcases hk with hk | hk
    · exact wpAny_Name (wpAny_loadName_cell I.ok.kind hk hc hcell fin) hd
    · exact wpAny_Name (wpAny_loadName_free I.ok.kind hk hc hcell fin hcd) hd
theorem pe_int {i j pos} : PE X (.Constant (.int i) j pos) (tC (.int i)) := fun _ _ _ H _ I h => wpAny_Constant_int ⟨.int i, H, I.tok _, ⟨_, rfl⟩, h⟩
theorem pe_bl {b j pos} : PE X (.Constant (.bool b) j pos) (tC (.bl b)) := fun _ _ _ H _ I h => Constant_bool ⟨.bl b, H, I, rfl, h⟩

/-- a global name of the def -/
def Gl (X : Cx) (x : Str) : Prop := X.env.kindOf x = some .globalImplicit
theorem ld_glob {E : Value → Shared → Prop} {pins : List (Addr × Obj)} {s : Shared} {σ : St} {H : Hp} {x : Str} {u : Value} {pos : Pos} {Q : Value → Shared → Prop} (I : Inv X pins σ H s) (hg : Gl X x) (hm : X.mg x = some u) (h : Q u s)
    (hd : (x == ("__debug__" : Str)) = false := by decide) : wpAny (model X.prog X.w) X.A (eval (.Name x pos) X.env) Q E s :=
  Calls.Name_function_global I.ok.kind hg (Calls.loadGlobal_global (by rw [I.ok.glob]; exact I.mod.glob.keeps I.bk) hm h) hd
theorem ld_blt {E : Value → Shared → Prop} {pins : List (Addr × Obj)} {s : Shared} {σ : St} {H : Hp} {x : Str} {u : Value} {pos : Pos} {Q : Value → Shared → Prop} (I : Inv X pins σ H s) (hg : Gl X x) (hm : X.mg x = none) (hv : bootBuiltins x = some u) (h : Q u s)
    (hn : x ≠ "__name__" := by decide) (hd : (x == ("__debug__" : Str)) = false := by decide) : wpAny (model X.prog X.w) X.A (eval (.Name x pos) X.env) Q E s := by
  obtain ⟨mb, h1, h2⟩ := I.mod.blt
  exact Calls.Name_function_global I.ok.kind hg (Calls.loadGlobal_builtin (by rw [I.ok.glob]; exact I.mod.glob.keeps I.bk) hm (by rw [I.ok.blt]; exact h1.keeps I.bk) ((h2 x hn).trans hv) h) hd
/-- a module's constant, a class, a function, as a value -/
theorem pe_glob {x : Str} {v : V} {u : Value} {pos : Pos} (hg : Gl X x) (hm : X.mg x = some u) (r : RelV v u) (hd : (x == ("__debug__" : Str)) = false := by decide) : PE X (.Name x pos) (tC v) :=
  fun _ _ _ H _ I h => ld_glob I hg hm ⟨v, H, I, r, h⟩ hd

/-! ### arithmetic -/
variable {a b : Expr} {ta tb : TE} {pos : Pos}

/-! ### comparisons -/
/-- a comparison as a value, as a test -/
def tB (t : TE) : TT := fun σ H Q => t σ H fun x H1 => ∃ c, x = .bl c ∧ Q c H1
/-- an expression whose value is a bool, as a test -/
theorem pt_val {e : Expr} {t : TE} (h : PE X e t) (he : ∀ whole, isTrue e X.env whole = (do let v ← whole; standAt e.pos; holding [v] (truthy v)) := by intro _; rfl) : PT X e (tB t) := by
  intro pins s σ H Q I hw
  refine isTrue_plain (thn (h pins s σ H _ I hw) fun v s1 ⟨x, H1, I1, r1, q1⟩ => ?_) (he _)
  obtain ⟨d, rfl, q⟩ := q1
  cases r1
  exact wpAny_truthy_bool ⟨H1, I1, q⟩

/-! ### and, or, not -/
variable {tA tB' : TT} {rest : List Expr}
def tAnd (t u : TT) : TT := fun σ H Q => t σ H fun c H1 => if c = true then u σ H1 Q else Q false H1
def tOr (t u : TT) : TT := fun σ H Q => t σ H fun c H1 => if c = true then Q true H1 else u σ H1 Q
def tNot (t : TT) : TT := fun σ H Q => t σ H fun c H1 => Q (!c) H1
theorem pw_and1 (ha : PT X a tA) : PW X (.BoolOp .And [a] pos) tA := by
  intro wh pins s σ H Q I h
  refine isTrue_and (thn (ha pins s σ H Q I h) fun c s1 e => ?_)
  cases c with
  | true => exact isTrue_and_nil e
  | false => exact e
theorem pw_or1 (ha : PT X a tA) : PW X (.BoolOp .Or [a] pos) tA := by
  intro wh pins s σ H Q I h
  refine isTrue_or (thn (ha pins s σ H Q I h) fun c s1 e => ?_)
  cases c with
  | false => exact isTrue_or_nil e
  | true => exact e
theorem pw_and (ha : PT X a tA) (hb : PW X (.BoolOp .And (b :: rest) pos) tB') : PW X (.BoolOp .And (a :: b :: rest) pos) (tAnd tA tB') := by
  intro wh pins s σ H Q I h
  refine isTrue_and (thn (ha pins s σ H _ I h) fun c s1 ⟨H1, I1, q1⟩ => ?_)
  cases c with
  | true => exact hb wh pins s1 σ H1 Q I1 q1
  | false => exact ⟨H1, I1, q1⟩
theorem pw_or (ha : PT X a tA) (hb : PW X (.BoolOp .Or (b :: rest) pos) tB') : PW X (.BoolOp .Or (a :: b :: rest) pos) (tOr tA tB') := by
  intro wh pins s σ H Q I h
  refine isTrue_or (thn (ha pins s σ H _ I h) fun c s1 ⟨H1, I1, q1⟩ => ?_)
  cases c with
  | true => exact ⟨H1, I1, q1⟩
  | false => exact hb wh pins s1 σ H1 Q I1 q1
theorem pt_not (ha : PT X a tA) : PT X (.UnaryOp .Not a pos) (tNot tA) := by
  intro pins s σ H Q I h
  exact isTrue_not (ha pins s σ H (fun c H1 => Q (!c) H1) I h)
end
end L2

namespace L2
open PySem PySem.Spec PyProof.Rows

/-! ### a list, a tuple that is read: tracked, frozen, or an object of the module -/
def SqL (K : PySem.W.Frag) (H : Hp) (a : Addr) (xs : List V) : Prop :=
  Rd H a (.lst xs) ∨
    ∃ (o : Obj) (its : Array Value) (n : Nat), K.lookup a = some o ∧ o.cls = .type "list" ∧ o.dict = none ∧ o.data = .seq its n ∧ its.size ≤ sizeLine ∧ Vals xs its.toList
def SqT (K : PySem.W.Frag) (H : Hp) (a : Addr) (xs : List V) : Prop :=
  Rd H a (.tup xs) ∨
    ∃ (o : Obj) (its : Array Value) (n : Nat), K.lookup a = some o ∧ o.cls = .type "tuple" ∧ o.data = .seq its n ∧ its.size ≤ sizeLine ∧ Vals xs its.toList
def absV : Value → Option V
  | .none => some .non
  | .bool b => some (.bl b)
  | .int i _ => some (.int i)
  | .str x _ => some (.str x)
  | .bytes b _ => some (.byt b)
  | .float b _ => some (.flt b)
  | .ref a => some (.ref a)
  | .type n => some (.ty n)
  | _ => none
theorem RelV.abs {x : V} {u : Value} (r : RelV x u) : absV u = some x := by
  cases x with
  | non => cases r; rfl
  | bl _ => cases r; rfl
  | int _ => obtain ⟨t, rfl⟩ := r; rfl
  | str _ => obtain ⟨t, rfl⟩ := r; rfl
  | byt _ => obtain ⟨t, rfl⟩ := r; rfl
  | flt _ => obtain ⟨t, rfl⟩ := r; rfl
  | ref _ => cases r; rfl
  | ty _ => cases r; rfl
theorem RelV.inj {x y : V} {u : Value} (r : RelV x u) (q : RelV y u) : x = y := Option.some.inj (r.abs.symm.trans q.abs)
theorem Vals.inj : ∀ {xs ys : List V} {us : List Value}, Vals xs us → Vals ys us → xs = ys
  | _, _, _, .nil, .nil => rfl
  | _, _, _, .cons r t, .cons r' t' => by rw [r.inj r', Vals.inj t t']
section
variable {X : Cx} {pins : List (Addr × Obj)} {σ : St} {H : Hp} {s : Shared} {a : Addr} {xs ys : List V}
theorem SqL.of {K : PySem.W.Frag} (h : H a = some (.lst xs)) : SqL K H a xs := .inl (.inl h)
theorem SqT.of {K : PySem.W.Frag} (h : H a = some (.tup xs)) : SqT K H a xs := .inl (.inl h)
theorem Inv.list (I : Inv X pins σ H s) (h : SqL X.K H a xs) : ∃ its : List Value, Vals xs its ∧ PlainL s.heap a its.toArray ∧ xs.length ≤ sizeLine := by
  rcases h with h | ⟨o, its, n, hk, hc, hd, hs, hz, r⟩
  · obtain ⟨z, its, n, r, e⟩ := h.ok I.hok
    exact ⟨its, r, ⟨_, n, e, rfl, rfl, rfl⟩, z⟩
  · refine ⟨its.toList, r, ⟨o, n, I.kIn a o hk, hc, hd, by simpa using hs⟩, ?_⟩
    have e := r.length
    simp only [Array.length_toList] at e
    omega
theorem Inv.tuple (I : Inv X pins σ H s) (h : SqT X.K H a xs) : ∃ its : List Value, Vals xs its ∧ IsTup s.heap a its.toArray ∧ xs.length ≤ sizeLine := by
  rcases h with h | ⟨o, its, n, hk, hc, hs, hz, r⟩
  · obtain ⟨z, its, r, p⟩ := h.ok I.hok
    exact ⟨its, r, p, z⟩
  · refine ⟨its.toList, r, ⟨o, I.kIn a o hk, hc, n, by simpa using hs⟩, ?_⟩
    have e := r.length
    simp only [Array.length_toList] at e
    omega
theorem Inv.list_inj (I : Inv X pins σ H s) (h : SqL X.K H a xs) (h' : SqL X.K H a ys) : xs = ys := by
  obtain ⟨its, r, ⟨o, n, e, _, _, d⟩, _⟩ := I.list h
  obtain ⟨its', r', ⟨o', n', e', _, _, d'⟩, _⟩ := I.list h'
  rw [e] at e'; cases e'
  rw [d] at d'
  injection d' with d1 _
  have : its = its' := by simpa using congrArg Array.toList d1
  subst this
  exact r.inj r'
theorem Inv.tuple_inj (I : Inv X pins σ H s) (h : SqT X.K H a xs) (h' : SqT X.K H a ys) : xs = ys := by
  obtain ⟨its, r, ⟨o, e, _, n, d⟩, _⟩ := I.tuple h
  obtain ⟨its', r', ⟨o', e', _, n', d'⟩, _⟩ := I.tuple h'
  rw [e] at e'; cases e'
  rw [d] at d'
  injection d' with d1 _
  have : its = its' := by simpa using congrArg Array.toList d1
  subst this
  exact r.inj r'
end

/-! ### another wish about exceptions -/
abbrev Cx.wish (X : Cx) (E : Value → Shared → Prop) : Cx := { X with xe := E }
/-- no exception leaves -/
abbrev Cx.nox (X : Cx) : Cx := X.wish fun _ _ => False
theorem Cx.Ok.wish {X : Cx} (ok : X.Ok) (E : Value → Shared → Prop) : (X.wish E).Ok :=
  ⟨ok.mod, ok.kind, ok.glob, ok.blt, ok.above, ok.inj, ok.has, ok.cab, ok.hd, ok.frames, ok.stk, ok.exf, ok.bs, ok.bsz, ok.noex, ok.exfs, ok.funs, ok.frf⟩
theorem Cx.Ok.unwish {X : Cx} {E : Value → Shared → Prop} (ok : (X.wish E).Ok) : X.Ok :=
  ⟨ok.mod, ok.kind, ok.glob, ok.blt, ok.above, ok.inj, ok.has, ok.cab, ok.hd, ok.frames, ok.stk, ok.exf, ok.bs, ok.bsz, ok.noex, ok.exfs, ok.funs, ok.frf⟩
section
variable {X : Cx} {pins : List (Addr × Obj)} {σ : St} {H : Hp} {s : Shared} {E : Value → Shared → Prop}
theorem Inv.wish (I : Inv X pins σ H s) (E : Value → Shared → Prop) : Inv (X.wish E) pins σ H s := ⟨I.ok.wish E, I.os, I.bare, I.base, I.loc, I.cell, I.free, I.freeC, I.pin, I.hok, I.len⟩
theorem Inv.unwish (I : Inv (X.wish E) pins σ H s) : Inv X pins σ H s := ⟨I.ok.unwish, I.os, I.bare, I.base, I.loc, I.cell, I.free, I.freeC, I.pin, I.hok, I.len⟩
theorem SP.unwish {D : Ends} {f : Flow} {s' : Shared} (h : SP (X.wish E) pins D f s') : SP X pins D f s' := by
  cases f with
  | next => obtain ⟨σ', H', I, q⟩ := h; exact ⟨σ', H', I.unwish, q⟩
  | brk => obtain ⟨σ', H', I, q⟩ := h; exact ⟨σ', H', I.unwish, q⟩
  | cont => obtain ⟨σ', H', I, q⟩ := h; exact ⟨σ', H', I.unwish, q⟩
  | ret u => obtain ⟨v, σ', H', I, r, q⟩ := h; exact ⟨v, σ', H', I.unwish, r, q⟩
theorem PE.nox {e : Expr} {t : TE} (h : PE X.nox e t) : PE X e t := fun pins s σ H Q I hw =>
  wpAny_mono (h pins s σ H Q (I.wish _) hw) (fun _ _ ⟨v, H', I', r, q⟩ => ⟨v, H', I'.unwish, r, q⟩) fun _ _ z => False.elim z
theorem PT.nox {e : Expr} {t : TT} (h : PT X.nox e t) : PT X e t := fun pins s σ H Q I hw =>
  wpAny_mono (h pins s σ H Q (I.wish _) hw) (fun _ _ ⟨H', I', q⟩ => ⟨H', I'.unwish, q⟩) fun _ _ z => False.elim z
theorem PSs.nox {st : List Stmt} {t : TS} (h : PSs X.nox st t) : PSs X st t := fun pins s σ H D I hw =>
  wpAny_mono (h pins s σ H D (I.wish _) hw) (fun _ _ q => q.unwish) fun _ _ z => False.elim z
end

/-! ### blocks and small statements -/
section
variable {X : Cx} {st : Stmt} {rest : List Stmt} {t u : TS} {e : Expr} {te : TE} {pos : Pos}
def tNext : TS := fun D σ H => D.nx σ H
def tSeq (t u : TS) : TS := fun D σ H => t { D with nx := u D } σ H
theorem pss_nil : PSs X [] tNext := fun _ _ σ H _ I h => wpAny_execs_nil ⟨σ, H, I, h⟩
theorem pss_cons (h1 : PS X st t) (h2 : PSs X rest u) : PSs X (st :: rest) (tSeq t u) := by
  intro pins s σ H D I h
  refine wpAny_execs_cons (thn (h1 pins s σ H { D with nx := u D } I h) fun f s1 q => ?_)
  cases f with
  | next =>
    obtain ⟨σ', H', I', q⟩ := q
    exact h2 pins s1 σ' H' D I' q
  | ret v => exact q
  | brk => exact q
  | cont => exact q
theorem pss_one (h1 : PS X st t) : PSs X [st] t := by
  intro pins s σ H D I h
  refine wpAny_execs_cons (thn (h1 pins s σ H D I h) fun f s1 q => ?_)
  cases f with
  | next => exact wpAny_execs_nil q
  | ret v => exact q
  | brk => exact q
  | cont => exact q
/-- in a def's body nothing is shown -/
theorem Inv.quiet {pins : List (Addr × Obj)} {σ : St} {H : Hp} {s : Shared} (I : Inv X pins σ H s) : interactive X.env = false := by simp [interactive, I.ok.kind]
/-- an expression whose value is dropped -/
def tDrop (te : TE) : TS := fun D σ H => te σ H fun _ H1 => D.nx σ H1
theorem ps_expr (he : PE X e te) (hs : swapsWith e none pos.line X.env = pure false := by rfl) : PS X (.Expr e pos) (tDrop te) := by
  intro pins s σ H D I h
  exact wpAny_Expr_any (thn (he pins s σ H _ I h) fun v s1 ⟨x, H1, I1, r1, q1⟩ => ⟨σ, H1, I1, q1⟩) I.quiet hs
def tRet (te : TE) : TS := fun D σ H => te σ H D.rt
theorem ps_ret (he : PE X e te) : PS X (.Return (some e) pos) (tRet te) := by
  intro pins s σ H D I h
  exact wpAny_Return_some (thn (he pins s σ H _ I h) fun v s1 ⟨x, H1, I1, r1, q1⟩ => ⟨x, σ, H1, I1, r1, q1⟩)
def tRetN : TS := fun D _ H => D.rt .non H
theorem ps_retN : PS X (.Return none pos) tRetN := fun _ _ σ H _ I h => wpAny_Return_none ⟨.non, σ, H, I, rfl, h⟩
def tIfS (c : TT) (t u : TS) : TS := fun D σ H => c σ H fun b H1 => if b = true then t D σ H1 else u D σ H1
theorem ps_if {c : Expr} {a b : List Stmt} {tc : TT} (hc : PT X c tc) (ha : PSs X a t) (hb : PSs X b u) : PS X (.If c a b pos) (tIfS tc t u) := by
  intro pins s σ H D I h
  refine wpAny_If (thn (hc pins s σ H _ I h) fun d s1 ⟨H1, I1, q1⟩ => ?_)
  cases d with
  | true => exact ha pins s1 σ H1 D I1 q1
  | false => exact hb pins s1 σ H1 D I1 q1
end

/-! ### targets -/
abbrev TG := V → St → Hp → (St → Hp → Prop) → Prop
abbrev TGs := List V → St → Hp → (St → Hp → Prop) → Prop
def PG (X : Cx) (target : Expr) (t : TG) : Prop :=
  ∀ (pins : List (Addr × Obj)) (s : Shared) (σ : St) (H : Hp) (v : V) (u : Value) (Q : St → Hp → Prop), Inv X pins σ H s → RelV v u → t v σ H Q →
    wpAny (model X.prog X.w) X.A (assign target X.env u) (fun _ s' => ∃ σ' H', Inv X pins σ' H' s' ∧ Q σ' H') X.xe s
/-- several targets, one after another -/
def PGs (X : Cx) (ts : List Expr) (t : TGs) : Prop :=
  ∀ (pins : List (Addr × Obj)) (s : Shared) (σ : St) (H : Hp) (vs : List V) (us : List Value) (Q : St → Hp → Prop), Inv X pins σ H s → Vals vs us → t vs σ H Q →
    wpAny (model X.prog X.w) X.A (assignInOrder ((assignEach ts X.env).map (·.2)) us) (fun _ s' => ∃ σ' H', Inv X pins σ' H' s' ∧ Q σ' H') X.xe s
/-- o[i] = v, by values -/
abbrev TSet := V → V → V → Hp → (Hp → Prop) → Prop
def PSet (X : Cx) (t : TSet) : Prop :=
  ∀ (pins : List (Addr × Obj)) (s : Shared) (σ : St) (H : Hp) (o i v : V) (ov iv u : Value) (Q : Hp → Prop), Inv X pins σ H s → RelV o ov → RelV i iv → RelV v u → t o i v H Q →
    wpAny (model X.prog X.w) X.A (setItem ov iv u) (fun _ s' => ∃ H', Inv X pins σ H' s' ∧ Q H') X.xe s
section
variable {X : Cx} {pos : Pos}
def gName (i : Nat) : TG := fun v σ H Q => Q (σ.set i (some v)) H
theorem pg_name {i : Nat} {x : Str} (hN : X.N.Nodup) (hi : X.N[i]? = some x) (hx : Loc X.env.scope x) (hf : X.fn x = true ∨ X.env.scope.names.lookup x = some .local := by first | exact .inl rfl | exact .inr rfl | assumption) : PG X (.Name x pos) (gName i) := by
  intro pins s σ H v u Q I r h
  exact wpAny_assign_Name (store_ok I hN hi hx r (fun s' I' => ⟨_, H, I', h⟩) hf)
def gNil : TGs := fun vs σ H Q => vs = [] ∧ Q σ H
def gCons (t : TG) (u : TGs) : TGs := fun vs σ H Q => ∃ v r, vs = v :: r ∧ t v σ H fun σ' H' => u r σ' H' Q
theorem pgs_nil : PGs X [] gNil := by
  intro pins s σ H vs us Q I r h
  obtain ⟨e, h⟩ := h
  subst e
  cases r
  exact assignInOrder_nil ⟨σ, H, I, h⟩
theorem pgs_cons {e : Expr} {es : List Expr} {t : TG} {u : TGs} (h1 : PG X e t) (h2 : PGs X es u)
    (hs : (assignEach (e :: es) X.env).map (·.2) = assign e X.env :: (assignEach es X.env).map (·.2) := by rfl) : PGs X (e :: es) (gCons t u) := by
  intro pins s σ H vs us Q I r h
  obtain ⟨v, vr, e1, h⟩ := h
  subst e1
  cases r with
  | cons r rr =>
    rw [hs]
    refine assignInOrder_cons (thn (h1 pins s σ H _ _ _ I r h) fun _ s1 ⟨σ1, H1, I1, q1⟩ => ?_)
    exact h2 pins s1 σ1 H1 _ _ Q I1 rr q1
/-- (a, b, ..) = a tuple of that length -/
def gTup (K : PySem.W.Frag) (n : Nat) (t : TGs) : TG := fun v σ H Q => ∃ a xs, v = .ref a ∧ SqT K H a xs ∧ xs.length = n ∧ t xs σ H Q
theorem pg_tup {es : List Expr} {k : Nat} {t : TGs} {n : Nat} (hc : X.calm = true) (h : PGs X es t)
    (hn : (assignEach es X.env).length = n := by rfl) (hst : (assignEach es X.env).findIdx? (·.1) = none := by rfl) : PG X (.Tuple es k pos) (gTup X.K n t) := by
  intro pins s σ H v u Q I r hw
  obtain ⟨a, xs, e1, hq, hl, hw⟩ := hw
  subst e1
  cases r
  obtain ⟨its, rv, ht, hz⟩ := I.tuple hq
  refine assign_Tuple_tuple (I.ok.hd hc) ht (by simp [hn, ← hl, rv.length]) hst fun h' hx => ?_
  have I1 : Inv X pins σ H { s with heap := h' } := I.kept (t' := s.toks) fun b o e => hx b o (Nat.ne_of_lt (Heap.lt_size e)) e
  exact h pins _ σ H xs _ Q I1 (by simpa using rv) hw
/-- o[i] = .. -/
def gSub (to ti : TE) (t : TSet) : TG := fun v σ H Q => to σ H fun o H1 => ti σ H1 fun i H2 => t o i v H2 fun H3 => Q σ H3
theorem pg_sub {o i : Expr} {to ti : TE} {t : TSet} (ho : PE X o to) (hi : PE X i ti) (hs : PSet X t)
    (ha : ∀ v, assign (.Subscript o i pos) X.env v = (do
      let ov ← holding [v] (eval o X.env)
      let iv ← holding [v, ov] (eval i X.env)
      standAt pos
      holding [v, ov, iv] (setItem ov iv v)
      release [v, ov, iv] []) := by intro _; rfl) : PG X (.Subscript o i pos) (gSub to ti t) := by
  intro pins s σ H v u Q I r h
  rw [ha]
  refine wpAny_bind (wpAny_holding (thn (ho pins s σ H _ I h) fun ov s1 ⟨x, H1, I1, r1, q1⟩ => ?_))
  refine wpAny_bind (wpAny_holding (thn (hi pins s1 σ H1 _ I1 q1) fun iv s2 ⟨y, H2, I2, r2, q2⟩ => ?_))
  refine wpAny_bind (wpAny_standAt (wpAny_bind (wpAny_holding (thn (hs pins s2 σ H2 x y v ov iv u _ I2 r1 r2 r q2) fun _ s3 ⟨H3, I3, q3⟩ => ?_))))
  exact wpAny_release ⟨σ, H3, I3, q3⟩
/-- target = value -/
def tAsg (te : TE) (g : TG) : TS := fun D σ H => te σ H fun x H1 => g x σ H1 D.nx
theorem ps_asg {tg e : Expr} {te : TE} {g : TG} (he : PE X e te) (hg : PG X tg g) (hs : swapsWithSole [tg] e pos.line X.env = pure false := by rfl) (hw : swappedStores [tg] e X.env = pure none := by rfl)
    (h1 : (assignEach [tg] X.env).map (·.2) = [assign tg X.env] := by rfl) : PS X (.Assign [tg] e pos) (tAsg te g) := by
  intro pins s σ H D I h
  refine wpAny_Assign_stores (thn (he pins s σ H _ I h) fun v s1 ⟨x, H1, I1, r1, q1⟩ => ?_) hs hw
  rw [h1]
  exact thn (hg pins s1 σ H1 x v _ I1 r1 q1) fun _ s2 q => q
/-- name = value -/
theorem ps_set {i : Nat} {x : Str} {e : Expr} {te : TE} {pos' : Pos} (hN : X.N.Nodup) (hi : X.N[i]? = some x) (hx : Loc X.env.scope x) (he : PE X e te) (hs : swapsWith e (some (.Name x pos')) pos.line X.env = pure false := by rfl) (hf : X.fn x = true ∨ X.env.scope.names.lookup x = some .local := by first | exact .inl rfl | exact .inr rfl | assumption) :
    PS X (.Assign [.Name x pos'] e pos) (tAsg te (gName i)) := by
  intro pins s σ H D I h
  refine wpAny_Assign_Name (thn (he pins s σ H _ I h) fun v s1 ⟨y, H1, I1, r1, q1⟩ => ?_) hs
  exact store_ok I1 hN hi hx r1 (fun s2 I2 => ⟨_, H1, I2, q1⟩) hf
end

/-! ### while -/
section
variable {X : Cx} {pos : Pos}
/-- the invariant W with its measure -/
def tWhile (c : TT) (tb : TS) : TS := fun D σ H => ∃ W : Nat → St → Hp → Prop, (∃ m, W m σ H) ∧ ∀ m σ H, W m σ H →
  c σ H fun b H1 => if b = true then ∃ N : St → Hp → Prop, (∀ σ' H', N σ' H' → ∃ m', m' < m ∧ W m' σ' H') ∧ tb { D with nx := N, ct := N, bk := D.nx } σ H1 else D.nx σ H1
theorem ps_while {c : Expr} {body : List Stmt} {tc : TT} {tb : TS} (hp : PassesOwn (model X.prog X.w) X.A X.env X.xe) (hc : PT X c tc) (hb : PSs X body tb) : PS X (.While c body [] pos) (tWhile tc tb) := by
  intro pins s σ H D I h
  obtain ⟨W, ⟨m0, w0⟩, turn⟩ := h
  refine wpAny_While (codeAny_whileLoop (fun n s' => ∃ σ' H', Inv X pins σ' H' s' ∧ W n σ' H') ?_ m0 ⟨σ, H, I, w0⟩)
  rintro n s1 ⟨σ1, H1, I1, w1⟩
  refine wpAny_passesOwn hp (thn (hc pins s1 σ1 H1 _ I1 (turn n σ1 H1 w1)) fun b s2 ⟨H2, I2, q2⟩ => ?_)
  cases b with
  | true =>
    obtain ⟨N, hN, q2⟩ := q2
    rw [if_pos rfl]
    refine wpAny_passesOwn hp (thn (hb pins s2 σ1 H2 _ I2 q2) fun f s3 q3 => ?_)
    cases f with
    | next =>
      obtain ⟨σ3, H3, I3, n3⟩ := q3
      obtain ⟨m', hm, w3⟩ := hN σ3 H3 n3
      exact ⟨m', hm, σ3, H3, I3, w3⟩
    | cont =>
      obtain ⟨σ3, H3, I3, n3⟩ := q3
      obtain ⟨m', hm, w3⟩ := hN σ3 H3 n3
      exact ⟨m', hm, σ3, H3, I3, w3⟩
    | brk => exact q3
    | ret v => exact q3
  | false =>
    rw [if_neg Bool.false_ne_true]
    exact wpAny_execs_nil ⟨σ1, H2, I2, q2⟩
end

/-! ### what a loop or a comprehension walks -/
/-- at turn i: it yields x (the heap may grow), or it stops -/
structure It where
  go : Nat → Hp → Prop
  yld : Nat → Hp → V → Hp → Prop
  stop : Nat → Hp → Prop
/-- the iterator's own objects may turn: they are not the frame's, not pinned, younger than the entry (or a comprehension's own) -/
def FpOk (X : Cx) (pins : List (Addr × Obj)) (H : Hp) (b : Addr) : Prop :=
  H b = none ∧ b ≠ X.env.locals ∧ b ∉ X.fs ∧ (b ∈ X.ex ∨ X.s_0.heap.objs.size ≤ b) ∧ (∀ x c, X.env.cells.lookup x = some c → c ≠ b) ∧ ∀ p ∈ X.pn ++ pins, p.1 ≠ b
theorem Inv.fpOk {X : Cx} {pins : List (Addr × Obj)} {σ : St} {H H' : Hp} {s : Shared} {b : Addr} (I : Inv X pins σ H s) (hb : s.heap.objs.size ≤ b) (hn : H' b = none) : FpOk X pins H' b := by
  refine ⟨hn, Nat.ne_of_gt (Nat.lt_of_lt_of_le I.lt hb), I.nofs hb, .inr (Nat.le_trans I.sz hb), fun x c e z => ?_, fun p hp z => ?_⟩
  · obtain ⟨v, q⟩ := I.cell x c e
    exact absurd (Nat.lt_of_lt_of_le q.lt (by rw [z]; exact hb)) (Nat.lt_irrefl _)
  · exact absurd (Nat.lt_of_lt_of_le (Heap.lt_size (I.pin p hp).1) (by rw [z]; exact hb)) (Nat.lt_irrefl _)
structure Turn (P : Program) (w : World) (K : PySem.W.Frag) (tg : Expr) (J : It) (fp : List Addr) (it : Addr) (tn : Nat → Heap → Prop) : Prop where
  mem : it ∈ fp
  obj : ∀ i h, tn i h → ∀ b ∈ fp, ∃ o, h.get? b = some o ∧ ∀ v, o.data ≠ .cell v
  keep : ∀ i h h', tn i h → (∀ b ∈ fp, ∀ o, h.get? b = some o → h'.get? b = some o) → tn i h'
  item : ∀ (X : Cx), X.prog = P → X.w = w → X.K = K → X.calm = true → ∀ (i : Nat) (pins : List (Addr × Obj)) (s : Shared) (σ : St) (H : Hp) (E : Value → Shared → Prop), Inv X pins σ H s → (∀ b ∈ fp, FpOk X pins H b) → tn i s.heap → J.go i H →
    wpAny (model P w) X.A (pyNext (.ref it)) (fun r s1 => ∃ u, r = some u ∧
      wpAny (model P w) X.A (letOwnedTupleGo tg (.ref it) u) (fun _ s2 => ∃ x H', Inv X pins σ H' s2 ∧ RelV x u ∧ J.yld i H x H' ∧ tn (i + 1) s2.heap ∧ ∀ b ∈ fp, H' b = none) E s1) E s
  done : ∀ (X : Cx), X.prog = P → X.w = w → X.K = K → X.calm = true → ∀ (i : Nat) (pins : List (Addr × Obj)) (s : Shared) (σ : St) (H : Hp) (E : Value → Shared → Prop), Inv X pins σ H s → (∀ b ∈ fp, FpOk X pins H b) → tn i s.heap → J.stop i H →
    wpAny (model P w) X.A (pyNext (.ref it)) (fun r s1 => r = none ∧ Inv X pins σ H s1) E s
  self : ∀ (A : Around) (i : Nat) (s : Shared) (Q : Value → Shared → Prop) (E : Value → Shared → Prop), tn i s.heap → Q (.ref it) s → wpAny (model P w) A (pyIter (.ref it)) Q E s
abbrev TI := St → Hp → (It → Hp → Prop) → Prop
/-- an iterator has come -/
def PIE (X : Cx) (pins : List (Addr × Obj)) (σ : St) (tg : Expr) (R : It → Hp → Prop) (itv : Value) (s2 : Shared) : Prop :=
  ∃ (it : Addr) (fp : List Addr) (tn : Nat → Heap → Prop) (J : It) (H' : Hp), itv = .ref it ∧ Inv X pins σ H' s2 ∧ Turn X.prog X.w X.K tg J fp it tn ∧ tn 0 s2.heap ∧ (∀ b ∈ fp, FpOk X pins H' b) ∧ R J H'
def PI (X : Cx) (tg iter : Expr) (wi : TI) : Prop :=
  ∀ (pins : List (Addr × Obj)) (s : Shared) (σ : St) (H : Hp) (R : It → Hp → Prop), Inv X pins σ H s → wi σ H R →
    wpAny (model X.prog X.w) X.A (eval iter X.env) (fun v s1 => wpAny (model X.prog X.w) X.A (pyIter v) (PIE X pins σ tg R) X.xe s1) X.xe s

/-- the step ahead of the store is nothing for an iterator that keeps no tuple -/
theorem go_of {M : Model} {A : Around} {E : Value → Shared → Prop} {s : Shared} {tg : Expr} {it : Addr} {u : Value} {o : Obj} {n : String} {vs : Array Value} {Q : Unit → Shared → Prop} (ho : s.heap.get? it = some o) (hc : o.cls = .type n) (hd : o.data = .fields vs)
    (hn : ["enumerate", "zip", "dict_itemiterator", "dict_reverseitemiterator", "odict_iterator", "itertools.zip_longest", "itertools.pairwise"].contains n = false) (hQ : Q () s) : wpAny M A (letOwnedTupleGo tg (.ref it) u) Q E s := by
  unfold letOwnedTupleGo
  cases tg <;> first
    | exact wpAny_pure hQ
    | (cases u <;> first
        | exact wpAny_pure hQ
        | (refine wpAny_bind (wpAny_load ho ?_)
           rw [hc, hd]
           show wpAny M A (if (["enumerate", "zip", "dict_itemiterator", "dict_reverseitemiterator", "odict_iterator", "itertools.zip_longest", "itertools.pairwise"].contains n && vs[0]? == some (rawInt _)) = true then _ else _) Q E s
           rw [if_neg (by intro h; rw [hn, Bool.false_and] at h; cases h)]
           exact wpAny_pure hQ))

/-- the list at a, as it stands at each turn (a loop may append to it) -/
def Itl (K : PySem.W.Frag) (a : Addr) : It :=
  ⟨fun i H => ∃ xs x, SqL K H a xs ∧ xs[i]? = some x, fun i H x H' => H' = H ∧ ∀ xs, SqL K H a xs → xs[i]? = some x, fun i H => ∃ xs, SqL K H a xs ∧ xs.length ≤ i⟩
def Itt (K : PySem.W.Frag) (a : Addr) : It :=
  ⟨fun i H => ∃ xs x, SqT K H a xs ∧ xs[i]? = some x, fun i H x H' => H' = H ∧ ∀ xs, SqT K H a xs → xs[i]? = some x, fun i H => ∃ xs, SqT K H a xs ∧ xs.length ≤ i⟩
/-- lo, lo + 1, .. (n of them) -/
def Itr (lo : Int) (n : Nat) : It := ⟨fun i _ => i < n, fun i H x H' => H' = H ∧ x = .int (lo + i), fun i _ => n ≤ i⟩
theorem turn_list {P : Program} {w : World} {K : PySem.W.Frag} {tg : Expr} (a it : Addr) : Turn P w K tg (Itl K a) [it] it (fun i h => h.IsListIter it a i) where
  mem := by simp
  obj := fun i h st b hb => by
    have e : b = it := by simpa using hb
    subst e
    obtain ⟨o, e, c, d⟩ := st
    exact ⟨o, e, fun v z => by rw [d] at z; cases z⟩
  keep := fun i h h' st k => st.at fun o e => k it (by simp) o e
  item := by
    intro X hP hw hK hc i pins s σ H E I hf st hg
    subst hP hw hK
    obtain ⟨xs, x, hq, hx⟩ := hg
    obtain ⟨its, rv, p, hz⟩ := I.list hq
    obtain ⟨u, hu, ru⟩ := rv.get hx
    obtain ⟨f0, f1, f2, f3, f4, f5⟩ := hf it (by simp)
    refine wpAny_pyNext_list_item st p.isList (x := u) (by simpa using hu) fun h' st' sb => ?_
    have I1 : Inv X pins σ H { s with heap := h' } := I.turned (t' := s.toks) (fun b o hb e => (sb.2 b hb).trans e) f0 f1 f3 f4 f5
    obtain ⟨o, e, c, d⟩ := id st'
    exact ⟨u, rfl, go_of (s := { s with heap := h' }) e c d (by decide) ⟨x, H, I1, ru, ⟨rfl, fun ys hy => by rw [I.list_inj hy hq]; exact hx⟩, st', fun b hb => (hf b hb).1⟩⟩
  done := by
    intro X hP hw hK hc i pins s σ H E I hf st hg
    subst hP hw hK
    obtain ⟨xs, hq, hx⟩ := hg
    obtain ⟨its, rv, p, hz⟩ := I.list hq
    obtain ⟨f0, f1, f2, f3, f4, f5⟩ := hf it (by simp)
    have hl := rv.length
    exact wpAny_pyNext_list_end (I.ok.hd hc) st p.isList (by simp; omega) fun h' eb => ⟨rfl, I.turned (t' := s.toks) (fun b o hb e => eb b o hb e) f0 f1 f3 f4 f5⟩
  self := fun _ _ _ _ _ st h => wpAny_pyIter_listiter st h
theorem turn_tuple {P : Program} {w : World} {K : PySem.W.Frag} {tg : Expr} (a it : Addr) : Turn P w K tg (Itt K a) [it] it (fun i h => h.IsTupleIter it a i) where
  mem := by simp
  obj := fun i h st b hb => by
    have e : b = it := by simpa using hb
    subst e
    obtain ⟨o, e, c, d⟩ := st
    exact ⟨o, e, fun v z => by rw [d] at z; cases z⟩
  keep := fun i h h' st k => st.at fun o e => k it (by simp) o e
  item := by
    intro X hP hw hK hc i pins s σ H E I hf st hg
    subst hP hw hK
    obtain ⟨xs, x, hq, hx⟩ := hg
    obtain ⟨its, rv, p, hz⟩ := I.tuple hq
    obtain ⟨u, hu, ru⟩ := rv.get hx
    obtain ⟨f0, f1, f2, f3, f4, f5⟩ := hf it (by simp)
    refine wpAny_pyNext_tuple_item st (show s.heap.IsTuple a its.toArray from p) (x := u) (by simpa using hu) fun h' st' sb => ?_
    have I1 : Inv X pins σ H { s with heap := h' } := I.turned (t' := s.toks) (fun b o hb e => (sb.2 b hb).trans e) f0 f1 f3 f4 f5
    obtain ⟨o, e, c, d⟩ := id st'
    exact ⟨u, rfl, go_of (s := { s with heap := h' }) e c d (by decide) ⟨x, H, I1, ru, ⟨rfl, fun ys hy => by rw [I.tuple_inj hy hq]; exact hx⟩, st', fun b hb => (hf b hb).1⟩⟩
  done := by
    intro X hP hw hK hc i pins s σ H E I hf st hg
    subst hP hw hK
    obtain ⟨xs, hq, hx⟩ := hg
    obtain ⟨its, rv, p, hz⟩ := I.tuple hq
    obtain ⟨f0, f1, f2, f3, f4, f5⟩ := hf it (by simp)
    have hl := rv.length
    exact wpAny_pyNext_tuple_end (I.ok.hd hc) st (show s.heap.IsTuple a its.toArray from p) (by simp; omega) fun h' eb => ⟨rfl, I.turned (t' := s.toks) (fun b o hb e => eb b o hb e) f0 f1 f3 f4 f5⟩
  self := fun _ _ _ _ _ st h => wpAny_pyIter_tupleiter st h
theorem turn_range {P : Program} {w : World} {K : PySem.W.Frag} {tg : Expr} (it : Addr) (lo : Int) (n : Nat) : Turn P w K tg (Itr lo n) [it] it (fun i h => IsRangeIter h it (lo + (i : Nat) * 1) ((n : Int) - (i : Nat)) 1) where
  mem := by simp
  obj := fun i h st b hb => by
    have e : b = it := by simpa using hb
    subst e
    exact ⟨_, st, fun v z => by
      have z' : Data.fields _ = Data.cell v := z
      cases z'⟩
  keep := fun i h h' st k => k it (by simp) _ st
  item := by
    intro X hP hw hK hc i pins s σ H E I hf st hg
    subst hP hw hK
    obtain ⟨f0, f1, f2, f3, f4, f5⟩ := hf it (by simp)
    have W := Walks.range (prog := X.prog) (w := X.w) (I.ok.hd hc) it lo 1 n
    refine W.item i s _ _ hg st fun v h' tk hv st' kk => ?_
    obtain ⟨t, rfl⟩ := hv
    have I1 : Inv X pins σ H { s with heap := h', toks := tk } := I.turned (fun b o hb e => kk b o (by simpa using hb) e) f0 f1 f3 f4 f5
    refine ⟨_, rfl, go_of (s := { s with heap := h', toks := tk }) (n := "range_iterator") st' rfl rfl (by decide) ⟨.int (lo + i), H, I1, ⟨t, ?_⟩, ⟨rfl, rfl⟩, st', fun b hb => (hf b hb).1⟩⟩
    rw [Int.mul_one]
  done := by
    intro X hP hw hK hc i pins s σ H E I hf st hg
    subst hP hw hK
    obtain ⟨f0, f1, f2, f3, f4, f5⟩ := hf it (by simp)
    exact wpAny_pyNext_range_end (I.ok.hd hc) st (by have : n ≤ i := hg; omega) fun h' eb => ⟨rfl, I.turned (t' := s.toks) (fun b o hb e => eb b o hb e) f0 f1 f3 f4 f5⟩
  self := fun _ _ _ _ _ st h => wpAny_pyIter_rangeiter st h
end L2

namespace L2
open PySem PySem.Spec PyProof.Rows
section
variable {X : Cx} {tg : Expr}
def iList (K : PySem.W.Frag) (tl : TE) : TI := fun σ H R => tl σ H fun x H1 => ∃ a, x = .ref a ∧ (∃ xs, SqL K H1 a xs) ∧ R (Itl K a) H1
def iTup (K : PySem.W.Frag) (tl : TE) : TI := fun σ H R => tl σ H fun x H1 => ∃ a, x = .ref a ∧ (∃ xs, SqT K H1 a xs) ∧ R (Itt K a) H1
theorem pi_list {l : Expr} {tl : TE} (hl : PE X l tl) : PI X tg l (iList X.K tl) := by
  intro pins s σ H R I h
  refine thn (hl pins s σ H _ I h) fun v s1 ⟨x, H1, I1, r1, q1⟩ => ?_
  obtain ⟨a, e, ⟨xs, hq⟩, q⟩ := q1
  subst e
  cases r1
  obtain ⟨its, rv, p, hz⟩ := I1.list hq
  refine wpAny_pyIter_list p.isList ?_
  refine ⟨s1.heap.objs.size, [s1.heap.objs.size], _, _, H1, rfl, I1.kept (t' := s1.toks) fun b o e => Heap.get?_push_of_some _ e, turn_list a _, ⟨_, Heap.get?_push_size _ rfl, rfl, rfl⟩, fun b hb => ?_, q⟩
  have e : b = s1.heap.objs.size := by simpa using hb
  subst e
  exact I1.fpOk (Nat.le_refl _) (I1.hok.fresh (Nat.le_refl _))
theorem pi_tup {l : Expr} {tl : TE} (hl : PE X l tl) : PI X tg l (iTup X.K tl) := by
  intro pins s σ H R I h
  refine thn (hl pins s σ H _ I h) fun v s1 ⟨x, H1, I1, r1, q1⟩ => ?_
  obtain ⟨a, e, ⟨xs, hq⟩, q⟩ := q1
  subst e
  cases r1
  obtain ⟨its, rv, p, hz⟩ := I1.tuple hq
  refine wpAny_pyIter_tuple (show s1.heap.IsTuple a its.toArray from p) ?_
  refine ⟨s1.heap.objs.size, [s1.heap.objs.size], _, _, H1, rfl, I1.kept (t' := s1.toks) fun b o e => Heap.get?_push_of_some _ e, turn_tuple a _, ⟨_, Heap.get?_push_size _ rfl, rfl, rfl⟩, fun b hb => ?_, q⟩
  have e : b = s1.heap.objs.size := by simpa using hb
  subst e
  exact I1.fpOk (Nat.le_refl _) (I1.hok.fresh (Nat.le_refl _))
/-- a range object just made, walked -/
theorem range_it {pins : List (Addr × Obj)} {σ : St} {H : Hp} {s : Shared} {R : It → Hp → Prop} {E : Value → Shared → Prop} {lo hi : Int} {t u v : Tok} {tk : Nat} (I : Inv X pins σ H s) (h1 : -(2 ^ 62) ≤ lo) (h2 : lo < 2 ^ 62) (h3 : -(2 ^ 62) ≤ hi) (h4 : hi < 2 ^ 62)
    (q : R (Itr lo (hi - lo).toNat) H) : wpAny (model X.prog X.w) X.A (pyIter (.ref s.heap.objs.size)) (PIE X pins σ tg R) E { s with heap := s.heap.push { cls := .type "range", data := .fields #[.int lo t, .int hi u, .int 1 v] }, toks := tk } := by
  refine wpAny_pyIter_range (IsRange.new ..) (small_one h1 h2 h3 h4) ?_
  have I1 : Inv X pins σ H { s with heap := s.heap.push { cls := .type "range", data := .fields #[.int lo t, .int hi u, .int 1 v] }, toks := tk } := I.kept fun b o e => Heap.get?_push_of_some _ e
  refine ⟨(s.heap.push { cls := .type "range", data := .fields #[.int lo t, .int hi u, .int 1 v] }).objs.size, [(s.heap.push { cls := .type "range", data := .fields #[.int lo t, .int hi u, .int 1 v] }).objs.size], _, _, H, rfl,
    I1.kept (t' := tk) fun b o e => Heap.get?_push_of_some _ e, turn_range _ lo (hi - lo).toNat, ?_, fun b hb => ?_, q⟩
  · have e1 : lo + ((0 : Nat) : Int) * 1 = lo := by simp
    have e2 : (((hi - lo).toNat : Nat) : Int) - ((0 : Nat) : Int) = Builtin.Range.rangeSize lo hi 1 := by rw [rangeSize_one]; split <;> omega
    show IsRangeIter _ _ (lo + ((0 : Nat) : Int) * 1) ((((hi - lo).toNat : Nat) : Int) - ((0 : Nat) : Int)) 1
    rw [e1, e2]
    exact Heap.get?_push_size _ rfl
  · have e : b = (s.heap.push { cls := .type "range", data := .fields #[.int lo t, .int hi u, .int 1 v] }).objs.size := by simpa using hb
    subst e
    exact I1.fpOk (Nat.le_refl _) (I1.hok.fresh (Nat.le_refl _))
def iRng1 (ta : TA) : TI := fun σ H R => ta σ H fun vs H1 => ∃ j : Int, vs = [.int j] ∧ -(2 ^ 62) ≤ j ∧ j < 2 ^ 62 ∧ R (Itr 0 j.toNat) H1
theorem pi_range1 {a : Expr} {ta : TA} {p pos : Pos} (hg : Gl X "range") (hm : X.mg "range" = none) (ha : PA X [a] ta) (hs : starEach [a] X.env = [(false, eval a X.env)] := by rfl) : PI X tg (.Call (.Name "range" p) [a] [] pos) (iRng1 ta) := by
  intro pins s σ H R I h
  refine Call_ (ld_blt I hg hm boot_range (PyProof.Rows.callWith_type1 (thn (ha pos pins s σ H _ I h) fun us s1 ⟨vs, H1, I1, r1, q1⟩ => ?_) hs rfl))
  obtain ⟨j, e, q1, q2, q⟩ := q1
  subst e
  cases r1 with
  | cons r rr =>
    cases rr
    obtain ⟨t, rfl⟩ := r
    exact call_range_1 (range_it I1 (by omega) (by omega) q1 q2 (by simpa using q))

/-! ### for -/
/-- W: the invariant by the turn and a measure; N: what the body is to reach -/
def tFor (wi : TI) (g : TG) (tb : TS) : TS := fun D σ H => wi σ H fun J H1 => ∃ W : Nat → Nat → St → Hp → Prop, (∃ m, W 0 m σ H1) ∧ ∀ i m σ H, W i m σ H →
  (J.stop i H ∧ D.nx σ H) ∨ (J.go i H ∧ ∃ N : St → Hp → Prop, (∀ σ' H', N σ' H' → ∃ m', m' < m ∧ W (i + 1) m' σ' H') ∧ ∀ x H', J.yld i H x H' → g x σ H' fun σ2 H2 => tb { D with nx := N, ct := N, bk := D.nx } σ2 H2)
/-- the records at fp as they stand -/
def pinsAt (fp : List Addr) (h : Heap) : List (Addr × Obj) := fp.filterMap fun b => (h.get? b).map fun o => (b, o)
theorem mem_pinsAt {fp : List Addr} {h : Heap} {b : Addr} {o : Obj} (hb : b ∈ fp) (e : h.get? b = some o) : (b, o) ∈ pinsAt fp h := List.mem_filterMap.mpr ⟨b, hb, by rw [e]; rfl⟩
theorem of_pinsAt {fp : List Addr} {h : Heap} {p : Addr × Obj} (hp : p ∈ pinsAt fp h) : p.1 ∈ fp ∧ h.get? p.1 = some p.2 := by
  obtain ⟨b, hb, e⟩ := List.mem_filterMap.mp hp
  cases q : h.get? b with
  | none => rw [q] at e; cases e
  | some o =>
    rw [q] at e
    have e' : (b, o) = p := Option.some.inj e
    subst e'
    exact ⟨hb, q⟩
theorem Inv.pinned {pins : List (Addr × Obj)} {σ : St} {H : Hp} {s : Shared} {fp : List Addr} (I : Inv X pins σ H s) (hf : ∀ b ∈ fp, FpOk X pins H b) (ho : ∀ b ∈ fp, ∃ o, s.heap.get? b = some o ∧ ∀ v, o.data ≠ .cell v) : Inv X (pins ++ pinsAt fp s.heap) σ H s :=
  I.pins_of fun p hp => (List.mem_append.mp hp).elim (fun z => I.pin p (List.mem_append_right _ z)) fun z => by
    obtain ⟨hb, e⟩ := of_pinsAt z
    obtain ⟨f0, f1, f2, _⟩ := hf p.1 hb
    obtain ⟨o, e', d⟩ := ho p.1 hb
    rw [e] at e'; cases e'
    exact ⟨e, f0, f1, f2, d⟩
theorem Inv.unpinned {pins pl : List (Addr × Obj)} {σ : St} {H : Hp} {s : Shared} (I : Inv X (pins ++ pl) σ H s) : Inv X pins σ H s := I.pins_of fun p hp => I.pin p (List.mem_append_right _ (List.mem_append_left _ hp))
theorem ps_for {iter : Expr} {body : List Stmt} {wi : TI} {g : TG} {tb : TS} {pos : Pos} (hp : PassesOwn (model X.prog X.w) X.A X.env X.xe) (hc : X.calm = true) (hi : PI X tg iter wi) (hg : PG X tg g) (hb : PSs X body tb)
    (hs : ∀ x, foldedSetIterable iter X.env x = pure x := by intro _; rfl) : PS X (.For tg iter body [] pos) (tFor wi g tb) := by
  intro pins s σ H D I h
  refine wpAny_For (thn (hi pins s σ H _ I h) fun v s1 h1 => thn h1 fun itv s2 h2 => ?_) hs
  obtain ⟨it, fp, tn, J, H2, e, I2, T, st2, f2, W, ⟨m0, w0⟩, turn⟩ := h2
  subst e
  -- what stays true of the iterator's objects through the loop
  have stat : ∀ {H' : Hp}, (∀ b ∈ fp, H' b = none) → ∀ b ∈ fp, FpOk X pins H' b := fun hn b hb => ⟨hn b hb, (f2 b hb).2⟩
  refine codeAny_forLoop_any (fun n s' => ∃ i σ' H', Inv X pins σ' H' s' ∧ tn i s'.heap ∧ (∀ b ∈ fp, H' b = none) ∧ W i n σ' H') ?_ m0 ⟨0, σ, H2, I2, st2, fun b hb => (f2 b hb).1, w0⟩
  rintro n s3 ⟨i, σ3, H3, I3, st3, fr3, w3⟩
  rcases turn i n σ3 H3 w3 with ⟨stop, qn⟩ | ⟨go, N, hN, step⟩
  · refine wpAny_passesOwn hp (thn (T.done X rfl rfl rfl hc i pins s3 σ3 H3 X.xe I3 (stat fr3) st3 stop) fun r s4 ⟨hr, I4⟩ => ?_)
    subst hr
    exact wpAny_execs_nil ⟨σ3, H3, I4, qn⟩
  · refine wpAny_passesOwn hp (thn (T.item X rfl rfl rfl hc i pins s3 σ3 H3 X.xe I3 (stat fr3) st3 go) fun r s4 ⟨u, hr, h4⟩ => ?_)
    subst hr
    refine wpAny_passesOwn hp (thn h4 fun _ s5 ⟨x, H5, I5, r5, y5, st5, fr5⟩ => ?_)
    have I5' := I5.pinned (stat fr5) (T.obj _ _ st5)
    refine wpAny_passesOwn hp (thn (hg _ s5 σ3 H5 x u _ I5' r5 (step x H5 y5)) fun _ s6 ⟨σ6, H6, I6, q6⟩ => ?_)
    refine wpAny_passesOwn hp (thn (hb _ s6 σ6 H6 _ I6 q6) fun f s7 q7 => ?_)
    have again : ∀ {σ7 : St} {H7 : Hp}, Inv X (pins ++ pinsAt fp s5.heap) σ7 H7 s7 → N σ7 H7 → ∃ m, m < n ∧ ∃ i σ' H', Inv X pins σ' H' s7 ∧ tn i s7.heap ∧ (∀ b ∈ fp, H' b = none) ∧ W i m σ' H' := fun {σ7 H7} I7 n7 => by
      obtain ⟨m', hm, w7⟩ := hN σ7 H7 n7
      refine ⟨m', hm, i + 1, σ7, H7, I7.unpinned, T.keep _ _ _ st5 fun b hb o e => (I7.pin (b, o) (List.mem_append_right _ (List.mem_append_right _ (mem_pinsAt hb e)))).1, fun b hb => ?_, w7⟩
      obtain ⟨o, e, d⟩ := T.obj _ _ st5 b hb
      exact (I7.pin (b, o) (List.mem_append_right _ (List.mem_append_right _ (mem_pinsAt hb e)))).2.1
    cases f with
    | next => obtain ⟨σ7, H7, I7, n7⟩ := q7; exact again I7 n7
    | cont => obtain ⟨σ7, H7, I7, n7⟩ := q7; exact again I7 n7
    | brk => obtain ⟨σ7, H7, I7, q7⟩ := q7; exact ⟨σ7, H7, I7.unpinned, q7⟩
    | ret v => obtain ⟨x7, σ7, H7, I7, r7, q7⟩ := q7; exact ⟨x7, σ7, H7, I7.unpinned, r7, q7⟩
end

/-! ### the forms one uses -/
/-- over a list that the body leaves as it is -/
theorem for_list {K : PySem.W.Frag} {a : Addr} {xs : List V} {g : TG} {tb : TS} {D : Ends} {σ : St} {H : Hp} (Pv : Nat → St → Hp → Prop) (h0 : Pv 0 σ H) (hl : ∀ i σ H, i ≤ xs.length → Pv i σ H → SqL K H a xs)
    (hs : ∀ i x σ H, xs[i]? = some x → Pv i σ H → g x σ H fun σ2 H2 => tb { D with nx := Pv (i + 1), ct := Pv (i + 1), bk := D.nx } σ2 H2) (hd : ∀ σ H, Pv xs.length σ H → D.nx σ H) :
    ∃ W : Nat → Nat → St → Hp → Prop, (∃ m, W 0 m σ H) ∧ ∀ i m σ H, W i m σ H →
      ((Itl K a).stop i H ∧ D.nx σ H) ∨ ((Itl K a).go i H ∧ ∃ N : St → Hp → Prop, (∀ σ' H', N σ' H' → ∃ m', m' < m ∧ W (i + 1) m' σ' H') ∧ ∀ x H', (Itl K a).yld i H x H' → g x σ H' fun σ2 H2 => tb { D with nx := N, ct := N, bk := D.nx } σ2 H2) := by
  refine ⟨fun i m σ H => m = xs.length - i ∧ i ≤ xs.length ∧ Pv i σ H, ⟨xs.length, by simp, Nat.zero_le _, h0⟩, ?_⟩
  rintro i m σ H ⟨rfl, hi, p⟩
  have q := hl i σ H hi p
  by_cases hlt : i < xs.length
  · refine .inr ⟨⟨xs, xs[i], q, by simp [hlt]⟩, Pv (i + 1), fun σ' H' p' => ⟨xs.length - (i + 1), by omega, rfl, hlt, p'⟩, fun x H' y => ?_⟩
    obtain ⟨e, y⟩ := y
    subst e
    exact hs i x σ _ (y xs q) p
  · have e : i = xs.length := by omega
    subst e
    exact .inl ⟨⟨xs, q, Nat.le_refl _⟩, hd σ H p⟩
theorem for_tup {K : PySem.W.Frag} {a : Addr} {xs : List V} {g : TG} {tb : TS} {D : Ends} {σ : St} {H : Hp} (Pv : Nat → St → Hp → Prop) (h0 : Pv 0 σ H) (hl : ∀ i σ H, i ≤ xs.length → Pv i σ H → SqT K H a xs)
    (hs : ∀ i x σ H, xs[i]? = some x → Pv i σ H → g x σ H fun σ2 H2 => tb { D with nx := Pv (i + 1), ct := Pv (i + 1), bk := D.nx } σ2 H2) (hd : ∀ σ H, Pv xs.length σ H → D.nx σ H) :
    ∃ W : Nat → Nat → St → Hp → Prop, (∃ m, W 0 m σ H) ∧ ∀ i m σ H, W i m σ H →
      ((Itt K a).stop i H ∧ D.nx σ H) ∨ ((Itt K a).go i H ∧ ∃ N : St → Hp → Prop, (∀ σ' H', N σ' H' → ∃ m', m' < m ∧ W (i + 1) m' σ' H') ∧ ∀ x H', (Itt K a).yld i H x H' → g x σ H' fun σ2 H2 => tb { D with nx := N, ct := N, bk := D.nx } σ2 H2) := by
  refine ⟨fun i m σ H => m = xs.length - i ∧ i ≤ xs.length ∧ Pv i σ H, ⟨xs.length, by simp, Nat.zero_le _, h0⟩, ?_⟩
  rintro i m σ H ⟨rfl, hi, p⟩
  have q := hl i σ H hi p
  by_cases hlt : i < xs.length
  · refine .inr ⟨⟨xs, xs[i], q, by simp [hlt]⟩, Pv (i + 1), fun σ' H' p' => ⟨xs.length - (i + 1), by omega, rfl, hlt, p'⟩, fun x H' y => ?_⟩
    obtain ⟨e, y⟩ := y
    subst e
    exact hs i x σ _ (y xs q) p
  · have e : i = xs.length := by omega
    subst e
    exact .inl ⟨⟨xs, q, Nat.le_refl _⟩, hd σ H p⟩
theorem for_range {lo : Int} {n : Nat} {g : TG} {tb : TS} {D : Ends} {σ : St} {H : Hp} (Pv : Nat → St → Hp → Prop) (h0 : Pv 0 σ H)
    (hs : ∀ i σ H, i < n → Pv i σ H → g (.int (lo + i)) σ H fun σ2 H2 => tb { D with nx := Pv (i + 1), ct := Pv (i + 1), bk := D.nx } σ2 H2) (hd : ∀ σ H, Pv n σ H → D.nx σ H) :
    ∃ W : Nat → Nat → St → Hp → Prop, (∃ m, W 0 m σ H) ∧ ∀ i m σ H, W i m σ H →
      ((Itr lo n).stop i H ∧ D.nx σ H) ∨ ((Itr lo n).go i H ∧ ∃ N : St → Hp → Prop, (∀ σ' H', N σ' H' → ∃ m', m' < m ∧ W (i + 1) m' σ' H') ∧ ∀ x H', (Itr lo n).yld i H x H' → g x σ H' fun σ2 H2 => tb { D with nx := N, ct := N, bk := D.nx } σ2 H2) := by
  refine ⟨fun i m σ H => m = n - i ∧ i ≤ n ∧ Pv i σ H, ⟨n, by simp, Nat.zero_le _, h0⟩, ?_⟩
  rintro i m σ H ⟨rfl, hi, p⟩
  by_cases hlt : i < n
  · refine .inr ⟨hlt, Pv (i + 1), fun σ' H' p' => ⟨n - (i + 1), by omega, rfl, hlt, p'⟩, fun x H' y => ?_⟩
    obtain ⟨e, y⟩ := y
    subst e y
    exact hs i σ _ hlt p
  · have e : i = n := by omega
    subst e
    exact .inl ⟨Nat.le_refl _, hd σ H p⟩
end L2

namespace L2
open PySem PySem.Spec PyProof.Rows

abbrev R2 := V → V → Hp → VK → Prop
/-- a two-place operation on values: f is binaryOp op, inplaceOp op or compareOp op -/
def OpR (X : Cx) (f : Value → Value → Sem Value) (r : R2) : Prop :=
  ∀ (pins : List (Addr × Obj)) (s : Shared) (σ : St) (H : Hp) (x y : V) (v u : Value) (Q : VK), Inv X pins σ H s → RelV x v → RelV y u → r x y H Q →
    wpAny (model X.prog X.w) X.A (f v u) (EP X pins σ Q) X.xe s
/-- a call of a value that is known (a builtin, a type) with values -/
def CallR (X : Cx) (f : Value) (r : List V → Hp → VK → Prop) : Prop :=
  ∀ (pins : List (Addr × Obj)) (s : Shared) (σ : St) (H : Hp) (xs : List V) (us : List Value) (Q : VK), Inv X pins σ H s → Vals xs us → r xs H Q →
    wpAny (model X.prog X.w) X.A (call f us) (EP X pins σ Q) X.xe s

def tOp (r : R2) (ta tb : TE) : TE := fun σ H Q => ta σ H fun x H1 => tb σ H1 fun y H2 => r x y H2 Q
/-- ints in, under C, and a value out -/
def rI (C : Int → Int → Prop) (g : Int → Int → V) : R2 := fun x y H Q => ∃ i j, x = .int i ∧ y = .int j ∧ C i j ∧ Q (g i j) H
def rI0 (g : Int → Int → V) : R2 := fun x y H Q => ∃ i j, x = .int i ∧ y = .int j ∧ Q (g i j) H

section
variable {X : Cx} {a b c : Expr} {ta tb tc : TE} {pos : Pos}

theorem binT (ha : PE X a ta) (hb : PE X b tb) {pins : List (Addr × Obj)} {s : Shared} {σ : St} {H : Hp} {R : V → V → Hp → Prop} (I : Inv X pins σ H s)
    (h : ta σ H fun x H1 => tb σ H1 fun y H2 => R x y H2) {Q : Value → Shared → Prop} {f : Value → Value → Sem Value}
    (hf : ∀ v u s2 x y H2, Inv X pins σ H2 s2 → RelV x v → RelV y u → R x y H2 → wpAny (model X.prog X.w) X.A (f v u) Q X.xe s2) :
    wpAny (model X.prog X.w) X.A (eval a X.env) (fun v s₁ => wpAny (model X.prog X.w) X.A (eval b X.env) (fun u s₂ => wpAny (model X.prog X.w) X.A (f v u) Q X.xe s₂) X.xe s₁) X.xe s := by
  refine thn (ha pins s σ H _ I h) fun v s1 ⟨x, H1, I1, r1, q1⟩ => ?_
  refine thn (hb pins s1 σ H1 _ I1 q1) fun u s2 ⟨y, H2, I2, r2, q2⟩ => ?_
  exact hf v u s2 x y H2 I2 r1 r2 q2

theorem pe_op {op : Operator} {r : R2} (ho : OpR X (binaryOp op) r) (ha : PE X a ta) (hb : PE X b tb) : PE X (.BinOp a op b pos) (tOp r ta tb) := by
  intro pins s σ H Q I h
  exact wpAny_BinOp (binT ha hb I h fun v u s2 x y H2 I2 rx ry q => ho pins s2 σ H2 x y v u Q I2 rx ry q)

/-! ### ints -/
theorem opI {f : Value → Value → Sem Value} {C : Int → Int → Prop} {g : Int → Int → Int}
    (rule : ∀ (i j : Int) (t u : Tok) (s : Shared) (Q : Value → Shared → Prop) (E : Value → Shared → Prop), C i j → Q (.int (g i j) s.toks) { s with toks := s.toks + 1 } → wpAny (model X.prog X.w) X.A (f (.int i t) (.int j u)) Q E s) :
    OpR X f (rI C fun i j => .int (g i j)) := by
  intro pins s σ H x y v u Q I rx ry h
  obtain ⟨i, j, rfl, rfl, hc, q⟩ := h
  obtain ⟨t, rfl⟩ := rx
  obtain ⟨t', rfl⟩ := ry
  exact rule i j t t' s _ _ hc ⟨.int (g i j), H, I.tok _, ⟨_, rfl⟩, q⟩
theorem opI0 {f : Value → Value → Sem Value} {g : Int → Int → Int}
    (rule : ∀ (i j : Int) (t u : Tok) (s : Shared) (Q : Value → Shared → Prop) (E : Value → Shared → Prop), Q (.int (g i j) s.toks) { s with toks := s.toks + 1 } → wpAny (model X.prog X.w) X.A (f (.int i t) (.int j u)) Q E s) :
    OpR X f (rI0 fun i j => .int (g i j)) := by
  intro pins s σ H x y v u Q I rx ry h
  obtain ⟨i, j, rfl, rfl, q⟩ := h
  obtain ⟨t, rfl⟩ := rx
  obtain ⟨t', rfl⟩ := ry
  exact rule i j t t' s _ _ ⟨.int (g i j), H, I.tok _, ⟨_, rfl⟩, q⟩
theorem opB0 {f : Value → Value → Sem Value} {g : Int → Int → Bool}
    (rule : ∀ (i j : Int) (t u : Tok) (s : Shared) (Q : Value → Shared → Prop) (E : Value → Shared → Prop), Q (.bool (g i j)) s → wpAny (model X.prog X.w) X.A (f (.int i t) (.int j u)) Q E s) :
    OpR X f (rI0 fun i j => .bl (g i j)) := by
  intro pins s σ H x y v u Q I rx ry h
  obtain ⟨i, j, rfl, rfl, q⟩ := h
  obtain ⟨t, rfl⟩ := rx
  obtain ⟨t', rfl⟩ := ry
  exact rule i j t t' s _ _ ⟨.bl (g i j), H, I, rfl, q⟩

def CDiv (i j : Int) : Prop := 0 < j ∧ j < 1073741824
def CPow (i j : Int) : Prop := 0 ≤ j ∧ j ≤ 1000000 ∧ i.natAbs < 2 ^ 64
def CMul (i j : Int) : Prop := (-(2 ^ 64) < i ∧ i < 2 ^ 64) ∨ (-(2 ^ 64) < j ∧ j < 2 ^ 64)
theorem CMul.ok {i j : Int} (h : CMul i j) : IntMulOk i j := by
  rcases h with ⟨h1, h2⟩ | ⟨h1, h2⟩
  · exact .of_left (intBits_le_64 h1 h2)
  · exact .of_right (intBits_le_64 h1 h2)
theorem two_pow_nn (k : Nat) : (0 : Int) ≤ 2 ^ k := by
  rw [two_pow_cast]
  exact Int.natCast_nonneg _

theorem op_add : OpR X (binaryOp .Add) (rI0 fun i j => .int (i + j)) := opI0 fun _ _ _ _ _ _ _ q => add_int q
theorem op_sub : OpR X (binaryOp .Sub) (rI0 fun i j => .int (i - j)) := opI0 fun _ _ _ _ _ _ _ q => sub_int q
theorem op_mul : OpR X (binaryOp .Mult) (rI CMul fun i j => .int (i * j)) := opI fun _ _ _ _ _ _ _ hc q => mul_int q hc.ok
/-- // by a positive divisor -/
theorem op_fdiv : OpR X (binaryOp .FloorDiv) (rI CDiv fun i j => .int (i / j)) := opI fun i j _ _ _ _ _ hc q => by
  have h1 : (0 : Int) < j := hc.1
  have h2 : j < 1073741824 := hc.2
  exact floordiv_int (by omega) (by rw [Int.fdiv_eq_ediv_of_nonneg i (by omega)]; exact q) (.inl (PyProof.noPylong_small (by omega)))
theorem op_shl : OpR X (binaryOp .LShift) (rI CPow fun i j => .int (i * 2 ^ j.toNat)) := opI fun _ _ _ _ _ _ _ hc q => lshift_int_small hc.1 hc.2.1 hc.2.2 q
theorem op_shr : OpR X (binaryOp .RShift) (rI (fun _ j => 0 ≤ j) fun i j => .int (i / 2 ^ j.toNat)) := opI fun i j _ _ _ _ _ hc q =>
  rshift_int hc (by rw [Int.fdiv_eq_ediv_of_nonneg i (two_pow_nn _)]; exact q)
theorem op_and : OpR X (binaryOp .BitAnd) (rI0 fun i j => .int (Builtin.bitAnd i j)) := opI0 fun _ _ _ _ _ _ _ q => and_int q



/-! ### bools among ints: n += (a < b) -/
end

/-! ### comparisons -/
/-- the scalars that == tells apart as data does -/
def scal : V → V → Bool
  | .non, .non => true | .non, .int _ => true | .int _, .non => true | .non, .bl _ => true | .bl _, .non => true | .non, .str _ => true | .str _, .non => true
  | .int _, .int _ => true | .bl _, .bl _ => true | .str _, .str _ => true | .byt _, .byt _ => true
  | .int _, .str _ => true | .str _, .int _ => true | .bl _, .str _ => true | .str _, .bl _ => true
  | _, _ => false
def rEq : R2 := fun x y H Q => scal x y = true ∧ Q (.bl (decide (x = y))) H
def rNe : R2 := fun x y H Q => scal x y = true ∧ Q (.bl (!decide (x = y))) H

theorem dec_int {i j : Int} : decide (V.int i = V.int j) = (i == j) := by
  rw [Bool.eq_iff_iff]
  simp
theorem dec_bl {i j : Bool} : decide (V.bl i = V.bl j) = (i == j) := by
  rw [Bool.eq_iff_iff]
  simp
theorem dec_str {i j : Str} : decide (V.str i = V.str j) = (i == j) := by
  rw [Bool.eq_iff_iff]
  simp
theorem dec_byt {i j : Array UInt8} : decide (V.byt i = V.byt j) = (i.toList == j.toList) := by
  rw [Bool.eq_iff_iff]
  cases i
  cases j
  simp

section
variable {X : Cx} {a b c : Expr} {ta tb tc : TE} {pos : Pos}
theorem fin_bl {pins : List (Addr × Obj)} {σ : St} {H : Hp} {s : Shared} {Q : VK} {k k' : Bool} (I : Inv X pins σ H s) (q : Q (.bl k) H) (e : k = k') : EP X pins σ Q (.bool k') s := by
  subst e
  exact ⟨.bl k, H, I, rfl, q⟩
theorem op_eq : OpR X (compareOp .Eq) rEq := by
  intro pins s σ H x y v u Q I rx ry h
  obtain ⟨hs, q⟩ := h
  cases x with
  | non =>
    cases rx
    cases y with
    | non => cases ry; exact PySem.EqNone.eq_none_none (fin_bl I q (by simp))
    | bl j => cases ry; exact PySem.EqNone.eq_none_bool (fin_bl I q (by simp))
    | int j => obtain ⟨t', rfl⟩ := ry; exact PySem.EqNone.eq_none_int (fin_bl I q (by simp))
    | str j => obtain ⟨t', rfl⟩ := ry; exact PySem.EqNone.eq_none_str (fin_bl I q (by simp))
    | _ => exact absurd (show false = true from hs) Bool.false_ne_true
  | bl i =>
    cases rx
    cases y with
    | non => cases ry; exact PySem.EqNone.eq_bool_none (fin_bl I q (by simp))
    | bl j => cases ry; exact eq_bool (fin_bl I q dec_bl)
    | str j => obtain ⟨t', rfl⟩ := ry; exact PySem.EqMixed.eq_bool_str (fin_bl I q (by simp))
    | _ => exact absurd (show false = true from hs) Bool.false_ne_true
  | int i =>
    obtain ⟨t, rfl⟩ := rx
    cases y with
    | non => cases ry; exact PySem.EqNone.eq_int_none (fin_bl I q (by simp))
    | int j => obtain ⟨t', rfl⟩ := ry; exact eq_int (fin_bl I q dec_int)
    | str j => obtain ⟨t', rfl⟩ := ry; exact PySem.EqMixed.eq_int_str (fin_bl I q (by simp))
    | _ => exact absurd (show false = true from hs) Bool.false_ne_true
  | str i =>
    obtain ⟨t, rfl⟩ := rx
    cases y with
    | non => cases ry; exact PySem.EqNone.eq_str_none (fin_bl I q (by simp))
    | bl j => cases ry; exact PySem.EqMixed.eq_str_bool (fin_bl I q (by simp))
    | int j => obtain ⟨t', rfl⟩ := ry; exact PySem.EqMixed.eq_str_int (fin_bl I q (by simp))
    | str j => obtain ⟨t', rfl⟩ := ry; exact eq_str (fin_bl I q dec_str)
    | _ => exact absurd (show false = true from hs) Bool.false_ne_true
  | byt i =>
    obtain ⟨t, rfl⟩ := rx
    cases y with
    | byt j => obtain ⟨t', rfl⟩ := ry; exact PySem.W.eq_bytes (fin_bl I q dec_byt)
    | _ => exact absurd (show false = true from hs) Bool.false_ne_true
  | _ => cases y <;> exact absurd (show false = true from hs) Bool.false_ne_true
theorem op_ne : OpR X (compareOp .NotEq) rNe := by
  intro pins s σ H x y v u Q I rx ry h
  obtain ⟨hs, q⟩ := h
  cases x with
  | non =>
    cases rx
    cases y with
    | non => cases ry; exact PySem.EqNone.ne_none_none (fin_bl I q (by simp))
    | bl j => cases ry; exact PySem.EqNone.ne_none_bool (fin_bl I q (by simp))
    | int j => obtain ⟨t', rfl⟩ := ry; exact PySem.EqNone.ne_none_int (fin_bl I q (by simp))
    | str j => obtain ⟨t', rfl⟩ := ry; exact PySem.EqNone.ne_none_str (fin_bl I q (by simp))
    | _ => exact absurd (show false = true from hs) Bool.false_ne_true
  | bl i =>
    cases rx
    cases y with
    | non => cases ry; exact PySem.EqNone.ne_bool_none (fin_bl I q (by simp))
    | bl j => cases ry; exact ne_bool (fin_bl I q (congrArg not dec_bl))
    | str j => obtain ⟨t', rfl⟩ := ry; exact PySem.EqMixed.ne_bool_str (fin_bl I q (by simp))
    | _ => exact absurd (show false = true from hs) Bool.false_ne_true
  | int i =>
    obtain ⟨t, rfl⟩ := rx
    cases y with
    | non => cases ry; exact PySem.EqNone.ne_int_none (fin_bl I q (by simp))
    | int j => obtain ⟨t', rfl⟩ := ry; exact ne_int (fin_bl I q (congrArg not dec_int))
    | str j => obtain ⟨t', rfl⟩ := ry; exact PySem.EqMixed.ne_int_str (fin_bl I q (by simp))
    | _ => exact absurd (show false = true from hs) Bool.false_ne_true
  | str i =>
    obtain ⟨t, rfl⟩ := rx
    cases y with
    | non => cases ry; exact PySem.EqNone.ne_str_none (fin_bl I q (by simp))
    | bl j => cases ry; exact PySem.EqMixed.ne_str_bool (fin_bl I q (by simp))
    | int j => obtain ⟨t', rfl⟩ := ry; exact PySem.EqMixed.ne_str_int (fin_bl I q (by simp))
    | str j => obtain ⟨t', rfl⟩ := ry; exact ne_str (fin_bl I q (congrArg not dec_str))
    | _ => exact absurd (show false = true from hs) Bool.false_ne_true
  | byt i =>
    obtain ⟨t, rfl⟩ := rx
    cases y with
    | byt j => obtain ⟨t', rfl⟩ := ry; exact PySem.W.ne_bytes (fin_bl I q (congrArg not dec_byt))
    | _ => exact absurd (show false = true from hs) Bool.false_ne_true
  | _ => cases y <;> exact absurd (show false = true from hs) Bool.false_ne_true

theorem op_lt : OpR X (compareOp .Lt) (rI0 fun i j => .bl (decide (i < j))) := opB0 fun _ _ _ _ _ _ _ q => lt_int q
theorem op_gt : OpR X (compareOp .Gt) (rI0 fun i j => .bl (decide (j < i))) := opB0 fun _ _ _ _ _ _ _ q => gt_int q
theorem op_ge : OpR X (compareOp .GtE) (rI0 fun i j => .bl (decide (j ≤ i))) := opB0 fun _ _ _ _ _ _ _ q => ge_int q




theorem nomark (b : Expr) {op : CmpOp} (h : op ≠ .In := by decide) (h2 : op ≠ .NotIn := by decide) : behindInMarks op b = false := by
  have e1 : (op == CmpOp.In) = false := by cases op <;> first | rfl | exact absurd rfl h
  have e2 : (op == CmpOp.NotIn) = false := by cases op <;> first | rfl | exact absurd rfl h2
  cases b <;> simp [behindInMarks, e1, e2]
/-- a comparison as a value; hm: nomark b, or (for in, not in) by with_unfolding_all rfl -/
theorem pe_cmpR {op : CmpOp} {r : R2} (ho : OpR X (compareOp op) r) (ha : PE X a ta) (hb : PE X b tb) (hm : behindInMarks op b = false) : PE X (.Compare a [op] [b] pos) (tOp r ta tb) := by
  intro pins s σ H Q I h
  exact wpAny_Compare1 (binT ha hb I h fun v u s2 x y H2 I2 rx ry q => ho pins s2 σ H2 x y v u Q I2 rx ry q) hm
/-- a reading of a value as a test -/
def tTest (t : TE) : TT := fun σ H Q => t σ H fun x H' => ∃ k, x = .bl k ∧ Q k H'
theorem pt_cmpR {op : CmpOp} {r : R2} (ho : OpR X (compareOp op) r) (ha : PE X a ta) (hb : PE X b tb) (hm : behindInMarks op b = false) : PT X (.Compare a [op] [b] pos) (tTest (tOp r ta tb)) := by
  intro pins s σ H Q I h
  refine wpAny_isTrue_Compare1 (thn (ha pins s σ H _ I h) fun v s1 ⟨x, H1, I1, r1, q1⟩ => thn (hb pins s1 σ H1 _ I1 q1) fun u s2 ⟨y, H2, I2, r2, q2⟩ =>
    thn (ho pins s2 σ H2 x y v u _ I2 r1 r2 q2) fun c s3 ⟨z, H3, I3, r3, k, e, q3⟩ => ?_) hm
  subst e
  cases r3
  exact wpAny_truthy_bool ⟨H3, I3, q3⟩

/-! ### truth -/
theorem line63 : (sizeLine : Nat) < 2 ^ 63 := by rw [sizeLine_eq]; decide

/-! ### strs and bytes -/


/-! ### scalar builtins, by CallR -/
theorem vals1 {x : V} {us : List Value} (r : Vals [x] us) : ∃ u, us = [u] ∧ RelV x u := by
  cases r with
  | cons r1 r2 => cases r2; exact ⟨_, rfl, r1⟩
end
end L2

namespace L2
open PySem PySem.Spec PyProof.Rows

/-! ### an instance, its attributes a map -/
structure ObjM (h : Heap) (x dx C : Addr) (mA : Str → Option Value) : Prop where
  obj : h.get? x = some (PySem.W.instObj C dx)
  ns : h.Ns1 dx mA
  ne : dx ≠ x

theorem lookIn_ns {h : Heap} {dx : Addr} {mA : Str → Option Value} (n : h.Ns1 dx mA) : ∃ od, h.get? dx = some od ∧ ∀ name, PySem.W.lookIn name od = some (mA name) := by
  obtain ⟨o, es, ep, ho, hd, hk, _, hm⟩ := n
  refine ⟨o, ho, fun name => ?_⟩
  have e := hm name
  unfold nsFind findBy at e
  rw [← Array.find?_toList] at e
  unfold PySem.W.lookIn
  rw [hd]
  dsimp only
  split
  · rename_i y q
    rw [q] at e
    exact congrArg some e
  · rename_i q
    rw [q] at e
    have a : es.toList.any (·.refKey) = false := by
      rw [List.any_eq_false]
      intro y hy
      obtain ⟨z, t, hkey⟩ := hk y (Array.mem_toList_iff.mp hy)
      simp [DictEntry.refKey, hkey]
    have a' : ¬ es.toList.any (·.refKey) = true := by rw [a]; exact Bool.false_ne_true
    rw [if_neg a']
    exact congrArg some e

theorem ObjM.look {h : Heap} {x dx C : Addr} {mA : Str → Option Value} (I : ObjM h x dx C mA) : ∃ od, PySem.W.InstAt h x (PySem.W.instObj C dx) C (some od) ∧ ∀ name, PySem.W.lookIn name od = some (mA name) :=
  let ⟨od, ho, hl⟩ := lookIn_ns I.ns
  ⟨od, ⟨I.obj, rfl, rfl, ho⟩, hl⟩

section
variable {prog : Program} {w : World} {A : Around} {E : Value → Shared → Prop} {s : Shared} {K : PySem.W.Frag} {x dx C f : Addr} {mA : Str → Option Value} {name : Str} {v : Value}

theorem get_map {expr : Bool} {Q : Value → Shared → Prop} (X : K.In s.heap) (I : ObjM s.heap x dx C mA) (hg : PySem.W.plainGet K C name = true) (hh : PySem.W.hasDictIn K C = true)
    (ha : PySem.W.findIn K (.ref C) name = some none) (hv : mA name = some v) (hv' : PySem.W.handedIn v = true) (h : Q v { s with toks := s.toks + 1 }) :
    wpAny (model prog w) A (getAttr (.ref x) name expr) Q E s := by
  obtain ⟨od, J, hl⟩ := I.look
  exact PySem.W.get_value X J (PySem.W.plainGet_of hg).1 (PySem.W.findObj_own hh ha rfl (by rw [hl, hv])) hv' h


theorem get_meth {pl : Sem Bool} {Q : Value × List Value → Shared → Prop} (X : K.In s.heap) (I : ObjM s.heap x dx C mA) (hg : PySem.W.plainGet K C name = true)
    (hf : PySem.W.findIn K (.ref C) name = some (some (.ref f))) (ht : PySem.W.isFn K (.ref f) = true) (hv : mA name = none) (h : Q (.ref f, [.ref x]) s) :
    wpAny (model prog w) A (getMethod (.ref x) name pl) Q E s := by
  obtain ⟨od, J, hl⟩ := I.look
  exact PySem.W.method_fn X J (PySem.W.plainGet_of hg).1 (PySem.W.plainGet_of hg).2 hf (beq_iff_eq.mp ht) (by show (PySem.W.lookIn name od).map (·.isSome) = some false; rw [hl, hv]; rfl) h

theorem set_map {ns : List Str} {Q : Unit → Shared → Prop} (X : K.In s.heap) (I : ObjM s.heap x dx C mA)
    (hs : PySem.W.findIn K (.ref C) "__setattr__" = some (some (.builtin "object.__setattr__"))) (hp : PySem.W.plainOver K C = true) (ht : PySem.W.takerIn K C name = some none) (hh : PySem.W.hasDictIn K C = true)
    (hw : PySem.Within mA ns) (hsz : ns.length ≤ sizeLine)
    (h : ∀ h', ObjM h' x dx C (fun y => if y = name then some v else mA y) → Heap.SameBut dx s.heap h' → Q () { s with heap := h', toks := s.toks + 2 }) :
    wpAny (model prog w) A (setAttr (.ref x) name v) Q E s := by
  obtain ⟨od, J, hl⟩ := I.look
  refine PySem.W.set_plain X J hs (PySem.W.osa_open (s := { s with toks := s.toks + 1 }) (r := none) X J hp ht fun b => ?_)
  obtain ⟨cd, hc, hd'⟩ := PySem.W.any_some hh
  have hx : s.heap.get? x = some ⟨.ref C, some dx, .plain, #[]⟩ := I.obj
  refine wpAny_bind (wpAny_pure (wpAny_bind (wpAny_bind (wpAny_loadPart hx (wpAny_bind (PySem.W.Looks.here (s := { s with toks := s.toks + 1 }) (PySem.W.looks_clsIn X hc) ?_))))))
  rw [hd']
  refine wpAny_pure (a := some dx) (wpAny_bind (wpAny_pure (wpAny_bind ?_)))
  refine wpAny_nsSet1 (s := { s with toks := s.toks + 1 }) I.ns fun h' hn2 hs2 => ?_
  obtain ⟨oD, esD, epD, hoD, hdD, hcD⟩ := hn2.count (PySem.Within.cons name v hw)
  refine wpAny_bind (wpAny_lookBehind hoD (by rw [hdD]; exact pastItsLine_dict (Nat.le_trans hcD (by rw [List.length_cons]; omega))) ?_)
  exact wpAny_pure (h _ ⟨(hs2.2 _ (Ne.symm I.ne)).trans I.obj, hn2, I.ne⟩ hs2)

/-- C(..): the dict at the heap's end, the instance behind it; then its __init__ -/
theorem make_map {R : Result → Shared → Prop} {vs : List Value} {kw : List (Str × Value)} (X : K.In s.heap) (hm : PySem.W.makesIn K C = true)
    (hi : PySem.W.findIn K (.ref C) "__init__" = some (some (.ref f))) (hf : PySem.W.typeIn K (.ref f) = some (.type "function"))
    (h : codeAny (model prog w) (A.under (.builtin "type.__call__" ⟨.ref C :: vs, kw⟩)) (.call (.ref f) ⟨.ref (s.heap.objs.size + 1) :: vs, kw⟩) (PySem.W.InitBack (s.heap.objs.size + 1) R)
      { s with heap := (s.heap.push PySem.W.emptyDict).push (PySem.W.instObj C s.heap.objs.size) }) :
    codeAny (model prog w) A (.call (.ref C) ⟨vs, kw⟩) R s := by
  obtain ⟨hh, g, d, t, os⟩ := s
  exact PySem.W.make_core (PySem.W.makes_of X hm) (PySem.W.looks_findIn X hi) (fun self => PySem.W.bind_fn X self hf) (.inl rfl) h
end

/-! ### the attributes as a list of pairs -/
def putF (f : Str) (v : V) : List (Str × V) → List (Str × V)
  | [] => [(f, v)]
  | (g, x) :: r => if g = f then (g, v) :: r else (g, x) :: putF f v r
theorem lookup_putF (f g : Str) (v : V) : ∀ fs : List (Str × V), (putF f v fs).lookup g = if g = f then some v else fs.lookup g
  | [] => by
    show List.lookup g [(f, v)] = _
    by_cases h : g = f
    · have hb : (g == f) = true := beq_iff_eq.mpr h
      simp only [List.lookup, hb, if_pos h]
    · have hb : (g == f) = false := beq_eq_false_iff_ne.mpr h
      simp only [List.lookup, hb, if_neg h]
  | (k, x) :: r => by
    have ih := lookup_putF f g v r
    rw [show putF f v ((k, x) :: r) = (if k = f then (k, v) :: r else (k, x) :: putF f v r) from rfl]
    by_cases hk : k = f
    · rw [if_pos hk]
      by_cases h : g = k
      · have hb : (g == k) = true := beq_iff_eq.mpr h
        simp only [List.lookup, hb, if_pos (h.trans hk)]
      · have hb : (g == k) = false := beq_eq_false_iff_ne.mpr h
        simp only [List.lookup, hb, if_neg (fun e : g = f => h (e.trans hk.symm))]
    · rw [if_neg hk]
      by_cases h : g = k
      · have hb : (g == k) = true := beq_iff_eq.mpr h
        simp only [List.lookup, hb, if_neg (fun e : g = f => hk (h.symm.trans e))]
      · have hb : (g == k) = false := beq_eq_false_iff_ne.mpr h
        simp only [List.lookup, hb]
        exact ih
theorem keys_putF (f : Str) (v : V) : ∀ fs : List (Str × V), f ∈ (putF f v fs).map (·.1) ∧ ∀ g, g ∈ fs.map (·.1) → g ∈ (putF f v fs).map (·.1)
  | [] => ⟨by simp [putF], fun g h => by simp at h⟩
  | (k, x) :: r => by
    obtain ⟨i1, i2⟩ := keys_putF f v r
    rw [show putF f v ((k, x) :: r) = (if k = f then (k, v) :: r else (k, x) :: putF f v r) from rfl]
    by_cases hk : k = f
    · rw [if_pos hk]
      subst hk
      exact ⟨by simp, fun g h => by simpa using h⟩
    · rw [if_neg hk]
      refine ⟨?_, fun g h => ?_⟩
      · rw [List.map_cons]
        exact List.mem_cons_of_mem _ i1
      · rw [List.map_cons] at h ⊢
        rcases List.mem_cons.mp h with e | e
        · exact List.mem_cons.mpr (.inl e)
        · exact List.mem_cons_of_mem _ (i2 g e)
theorem length_putF (f : Str) (v : V) : ∀ fs : List (Str × V), (putF f v fs).length ≤ fs.length + 1
  | [] => by simp [putF]
  | (k, x) :: r => by
    have ih := length_putF f v r
    rw [show putF f v ((k, x) :: r) = (if k = f then (k, v) :: r else (k, x) :: putF f v r) from rfl]
    by_cases hk : k = f
    · rw [if_pos hk, List.length_cons, List.length_cons]; omega
    · rw [if_neg hk, List.length_cons, List.length_cons]; omega

theorem RelO.some_of {v : V} {o : Option Value} (r : RelO (some v) o) : ∃ u, o = some u ∧ RelV v u := by
  cases o with
  | none => exact (show False from r).elim
  | some u => exact ⟨u, rfl, r⟩
theorem RelO.none_of {o : Option Value} (r : RelO none o) : o = none := by
  cases o with
  | none => rfl
  | some u => exact (show False from r).elim
theorem handed_of {v : V} {u : Value} (r : RelV v u) : PySem.W.handedIn u = true := by
  cases v with
  | non => cases (show u = Value.none from r); rfl
  | bl b => cases (show u = Value.bool b from r); rfl
  | int i => obtain ⟨t, e⟩ := (show ∃ t, u = Value.int i t from r); cases e; rfl
  | str x => obtain ⟨t, e⟩ := (show ∃ t, u = Value.str x t from r); cases e; rfl
  | byt b => obtain ⟨t, e⟩ := (show ∃ t, u = Value.bytes b t from r); cases e; rfl
  | flt b => obtain ⟨t, e⟩ := (show ∃ t, u = Value.float b t from r); cases e; rfl
  | ref a => cases (show u = Value.ref a from r); rfl
  | ty n => cases (show u = Value.type n from r); rfl

section
variable {P : Program} {w : World} {H H' : Hp} {h h' : Heap} {a C dx : Addr} {fs fs' : List (Str × V)}
theorem ins_get (hok : HOk P w H h) (e : H a = some (.ins C dx fs)) : ∃ mA, ObjM h a dx C mA ∧ (∀ f, RelO (fs.lookup f) (mA f)) ∧ PySem.Within mA (fs.map (·.1)) ∧ fs.length ≤ 1000 ∧ H dx = some (.own a) := by
  obtain ⟨d, z, ne, ob, mA, n, r, q⟩ := (show ObjOk P w H h a (.ins C dx fs) from hok a _ e)
  exact ⟨mA, ⟨ob, n, ne⟩, r, q, z, d⟩
end

/-! ### what of the text a class must have -/
structure Cls (K : PySem.W.Frag) (C : Addr) : Prop where
  pg : PySem.W.plainGet K C Str.empty = true
  hd : PySem.W.hasDictIn K C = true
  po : PySem.W.plainOver K C = true
  sa : PySem.W.findIn K (.ref C) "__setattr__" = some (some (.builtin "object.__setattr__"))
theorem Cls.get {K : PySem.W.Frag} {C : Addr} (c : Cls K C) (f : Str) : PySem.W.plainGet K C f = true := c.pg
/-- no class of it has the name -/
def NoAttr (K : PySem.W.Frag) (C : Addr) (f : Str) : Prop := PySem.W.findIn K (.ref C) f = some none
theorem NoAttr.taker {K : PySem.W.Frag} {C : Addr} {f : Str} (n : NoAttr K C f) : PySem.W.takerIn K C f = some none := by
  unfold PySem.W.takerIn
  rw [show PySem.W.findIn K (.ref C) f = some none from n]
  rfl
/-- a method: a plain def of the class or of one above it -/
structure Meth (K : PySem.W.Frag) (C : Addr) (m : Str) (f : Addr) : Prop where
  at_ : PySem.W.findIn K (.ref C) m = some (some (.ref f))
  fn : PySem.W.isFn K (.ref f) = true
  kp : PySem.W.keepIn K (.ref f) = true

section
variable {X : Cx} {pins : List (Addr × Obj)} {σ : St} {H : Hp} {s : Shared} {a C dx : Addr} {fs : List (Str × V)} {f : Str} {v : V} {A : Around} {E : Value → Shared → Prop}

theorem getattr_ok {b : Bool} {Q : Value → Shared → Prop} (I : Inv X pins σ H s) (e : H a = some (.ins C dx fs)) (c : Cls X.K C) (n : NoAttr X.K C f) (l : fs.lookup f = some v)
    (h : ∀ u s', Inv X pins σ H s' → RelV v u → Q u s') : wpAny (model X.prog X.w) A (getAttr (.ref a) f b) Q E s := by
  obtain ⟨mA, O, r, _, _, _⟩ := ins_get I.hok e
  obtain ⟨u, hu, ru⟩ := RelO.some_of (v := v) (o := mA f) (by rw [← l]; exact r f)
  exact get_map I.kIn O (c.get f) c.hd n hu (handed_of ru) (h u _ (I.tok _) ru)


theorem getmeth_ok {m : Str} {g : Addr} {pl : Sem Bool} {Q : Value × List Value → Shared → Prop} (I : Inv X pins σ H s) (e : H a = some (.ins C dx fs)) (c : Cls X.K C) (k : Meth X.K C m g) (l : fs.lookup m = none)
    (h : Q (.ref g, [.ref a]) s) : wpAny (model X.prog X.w) A (getMethod (.ref a) m pl) Q E s := by
  obtain ⟨mA, O, r, _, _, _⟩ := ins_get I.hok e
  have hn : mA m = none := RelO.none_of (by rw [← l]; exact r m)
  exact get_meth I.kIn O (c.get m) k.at_ k.fn hn h

theorem setattr_ok {y : V} {u : Value} {Q : Unit → Shared → Prop} (I : Inv X pins σ H s) (e : H a = some (.ins C dx fs)) (c : Cls X.K C) (n : NoAttr X.K C f) (hl : fs.length < 1000) (ry : RelV y u)
    (h : ∀ s', Inv X pins σ (upd H a (.ins C dx (putF f y fs))) s' → Q () s') : wpAny (model X.prog X.w) A (setAttr (.ref a) f u) Q E s := by
  obtain ⟨mA, O, r, wi, _, ho⟩ := ins_get I.hok e
  have hz : (fs.map (·.1)).length ≤ sizeLine := by rw [List.length_map, sizeLine_eq]; omega
  refine set_map I.kIn O c.sa c.po n.taker c.hd wi hz fun h' O' sb => h _ ?_
  have hd : ∃ o, h'.get? dx = some o := let ⟨o, _, _, e', _⟩ := O'.ns; ⟨o, e'⟩
  refine I.write (x := a) (e := dx) (by rw [e]; exact True.intro) (.inr ho) (fun b q hb z => (sb.2 b hb).trans z) hd ?_
  refine ⟨by rw [upd_ne O.ne]; exact ho, ?_, O.ne, O'.obj, _, O'.ns, fun g => ?_, fun g hg => ?_⟩
  · have := length_putF f y fs; omega
  · show RelO ((putF f y fs).lookup g) (if g = f then some u else mA g)
    rw [lookup_putF]
    by_cases q : g = f
    · rw [if_pos q, if_pos q]; exact ry
    · rw [if_neg q, if_neg q]; exact r g
  · by_cases q : g = f
    · rw [q]; exact (keys_putF f y fs).1
    · refine (keys_putF f y fs).2 g (wi g fun z => hg ?_)
      show (if g = f then some u else mA g) = none
      rw [if_neg q]; exact z

/-- a new instance, tracked, without attributes -/
theorem Inv.made (I : Inv X pins σ H s) : Inv X pins σ (upd (upd H s.heap.objs.size (.own (s.heap.objs.size + 1))) (s.heap.objs.size + 1) (.ins C s.heap.objs.size []))
    { s with heap := (s.heap.push PySem.W.emptyDict).push (PySem.W.instObj C s.heap.objs.size) } := by
  have e1 : (s.heap.push PySem.W.emptyDict).get? s.heap.objs.size = some PySem.W.emptyDict := Heap.get?_push_size s.heap rfl
  have e2 : ((s.heap.push PySem.W.emptyDict).push (PySem.W.instObj C s.heap.objs.size)).get? (s.heap.objs.size + 1) = some (PySem.W.instObj C s.heap.objs.size) := by
    have := Heap.get?_push_size (s.heap.push PySem.W.emptyDict) (o := PySem.W.instObj C s.heap.objs.size) rfl
    rwa [Heap.size_push] at this
  have e3 : (s.heap.push PySem.W.emptyDict).Ns s.heap.objs.size (fun _ => none) := ⟨PySem.W.emptyDict, #[], _, e1, rfl, (fun e he => absurd he (by simp)), fun _ => rfl⟩
  have I1 := I.laid (a := s.heap.objs.size) (o := .own (s.heap.objs.size + 1)) (h' := s.heap.push PySem.W.emptyDict) (t' := s.toks) (fun b u q => Heap.get?_push_of_some _ q) (Nat.le_refl _) ⟨_, e1⟩
  refine I1.laid (a := s.heap.objs.size + 1) (o := .ins C s.heap.objs.size []) (t' := s.toks) (fun b u q => Heap.get?_push_of_some _ q) (Nat.le_of_eq (Heap.size_push _ _)) ?_
  have ne : s.heap.objs.size ≠ s.heap.objs.size + 1 := Nat.ne_of_lt (Nat.lt_succ_self _)
  refine ⟨by rw [upd_ne ne, upd_same], Nat.zero_le _, ne, e2, fun _ => none, (Heap.Ns1.of_empty e3).at fun o q => Heap.get?_push_of_some _ q, fun _ => True.intro, fun y hy => absurd rfl hy⟩

/-- e.f where nothing but the object is asked: through attributeBase (super) and the last hold -/
theorem attr_of {prog : Program} {w : World} {env : Env} {e : Expr} {f : Str} {pos : Pos} {s : Shared} {Q : Value → Shared → Prop} (hb : attributeBase e f env (eval e env) = eval e env)
    (h : wpAny (model prog w) A (eval e env) (fun o s₁ => wpAny (model prog w) A (getAttr o f true) Q E s₁) E s) : wpAny (model prog w) A (eval (.Attribute e f pos) env) Q E s :=
  Attribute_any_ h (by rw [arm_eval_Attribute, hb])
end

/-! ### readings and rules -/
/-- e.f, an attribute of the instance -/
def tFld (K : PySem.W.Frag) (ta : TE) (f : Str) : TE := fun σ H Q => ta σ H fun x H1 => ∃ a C dx fs v, x = .ref a ∧ H1 a = some (.ins C dx fs) ∧ Cls K C ∧ NoAttr K C f ∧ fs.lookup f = some v ∧ Q v H1
/-- e.f = value -/
def sFld (K : PySem.W.Frag) (ta tv : TE) (f : Str) : TS := fun D σ H => tv σ H fun y H1 => ta σ H1 fun x H2 => ∃ a C dx fs, x = .ref a ∧ H2 a = some (.ins C dx fs) ∧ Cls K C ∧ NoAttr K C f ∧ fs.length < 1000 ∧
  D.nx σ (upd H2 a (.ins C dx (putF f y fs)))
/-- an augmented operator on two values -/
def InOp (X : Cx) (op : Operator) (rd : V → V → Hp → VK → Prop) : Prop :=
  ∀ (pins : List (Addr × Obj)) (s : Shared) (σ : St) (H : Hp) (x y : V) (u v : Value) (Q : VK), Inv X pins σ H s → RelV x u → RelV y v → rd x y H Q → wpAny (model X.prog X.w) X.A (inplaceOp op u v) (EP X pins σ Q) X.xe s
/-- e.f op= value -/
def sFldAug (K : PySem.W.Frag) (ta tv : TE) (rd : V → V → Hp → VK → Prop) (f : Str) : TS := fun D σ H => ta σ H fun x H1 => ∃ a C dx fs v, x = .ref a ∧ H1 a = some (.ins C dx fs) ∧ Cls K C ∧ NoAttr K C f ∧ fs.lookup f = some v ∧
  tv σ H1 fun y H2 => rd v y H2 fun z H3 => ∃ dx' fs', H3 a = some (.ins C dx' fs') ∧ fs'.length < 1000 ∧ D.nx σ (upd H3 a (.ins C dx' (putF f z fs')))

section
variable {X : Cx} {o e value : Expr} {f : Str} {pos pos' tpos : Pos} {ta tv : TE}
theorem pe_fld (he : PE X e ta) (hb : attributeBase e f X.env (eval e X.env) = eval e X.env) : PE X (.Attribute e f pos) (tFld X.K ta f) := by
  intro pins s σ H Q I h
  refine attr_of hb (thn (he pins s σ H _ I h) fun u s1 ⟨x, H1, I1, rx, a, C, dx, fs, v, ex, ea, c, n, l, q⟩ => ?_)
  subst ex
  obtain rfl : u = Value.ref a := rx
  exact getattr_ok I1 ea c n l fun u' s2 I2 ru => ⟨v, H1, I2, ru, q⟩
theorem ps_fld (ha : PE X o ta) (hv : PE X value tv) (hs : swapsWith value (some (.Attribute o f pos')) pos.line X.env = pure false) : PS X (.Assign [.Attribute o f pos'] value pos) (sFld X.K ta tv f) := by
  intro pins s σ H D I h
  refine plainObj_wpAny_Assign_Attribute (thn (hv pins s σ H _ I h) fun u s1 ⟨y, H1, I1, ry, q⟩ => thn (ha pins s1 σ H1 _ I1 q) fun ov s2 ⟨x, H2, I2, rx, a, C, dx, fs, ex, ea, c, n, l, q2⟩ => ?_) hs
  subst ex
  obtain rfl : ov = Value.ref a := rx
  exact setattr_ok I2 ea c n l ry fun s3 I3 => ⟨σ, _, I3, q2⟩
theorem ps_fldaug {op : Operator} {rd : V → V → Hp → VK → Prop} (ha : PE X o ta) (hv : PE X value tv) (hop : InOp X op rd) : PS X (.AugAssign (.Attribute o f tpos) op value pos) (sFldAug X.K ta tv rd f) := by
  intro pins s σ H D I h
  refine wpAny_AugAssign_AttributeAny (thn (ha pins s σ H _ I h) fun ov s1 ⟨x, H1, I1, rx, a, C, dx, fs, v, ex, ea, c, n, l, q⟩ => ?_)
  subst ex
  obtain rfl : ov = Value.ref a := rx
  refine getattr_ok I1 ea c n l fun u s2 I2 ru => thn (hv pins s2 σ H1 _ I2 q) fun w3 s3 ⟨y, H2, I3, ry, q3⟩ => thn (hop pins s3 σ H2 v y u w3 _ I3 ru ry q3) fun w4 s4 ⟨z, H3, I4, rz, dx', fs', ea', l', q4⟩ => ?_
  exact setattr_ok I4 ea' c n l' rz fun s5 I5 => ⟨σ, _, I5, q4⟩
def rAdd : V → V → Hp → VK → Prop := fun x y H Q => ∃ i j, x = .int i ∧ y = .int j ∧ Q (.int (i + j)) H
theorem in_add : InOp X .Add rAdd := by
  rintro pins s σ H x y u v Q I rx ry ⟨i, j, rfl, rfl, q⟩
  obtain ⟨t, rfl⟩ := (show ∃ t, u = Value.int i t from rx)
  obtain ⟨t', rfl⟩ := (show ∃ t', v = Value.int j t' from ry)
  exact PyProof.Rows.iadd_int ⟨.int (i + j), H, I.tok _, ⟨_, rfl⟩, q⟩

end

/-! ### isinstance -/
section
variable {X : Cx} {pins : List (Addr × Obj)} {σ : St} {H : Hp} {s : Shared} {A : Around} {E : Value → Shared → Prop} {Q : Value → Shared → Prop} {c : Value} {b : Bool}
end
end L2

namespace L2
open PySem PySem.Spec PyProof.Rows

/-! ### room -/
structure Room (k : Nat) (A : Around) : Prop where
  hd : A.handled = none
  dp : A.depth + 3 * k + 5 < recursionLimit
  un : A.units + 16 * k + 200 < cLine
theorem Room.mono {j k : Nat} {A : Around} (r : Room k A) (h : j ≤ k) : Room j A := ⟨r.hd, by have := r.dp; omega, by have := r.un; omega⟩
theorem Room.deeper {k : Nat} {A : Around} (r : Room (k + 1) A) (env : Env) : Room k (A.deeper env) :=
  ⟨r.hd, by have := r.dp; show A.depth + 1 + 3 * k + 5 < _; omega, by have := r.un; show A.units + 3 + 16 * k + 200 < _; omega⟩
theorem make_depth {A : Around} {C : Addr} {us : List Value} {kw : List (Str × Value)} : (A.under (.builtin "type.__call__" ⟨.ref C :: us, kw⟩)).depth = A.depth + 1 := by
  first | rfl | simp [Around.under, Code.weight, Code.isCreation, Code.isGuard, Code.isCaller, Code.frames, Code.isFrame, guardIds]
theorem make_units {A : Around} {C : Addr} {us : List Value} {kw : List (Str × Value)} : (A.under (.builtin "type.__call__" ⟨.ref C :: us, kw⟩)).units = A.units + 1 := by
  first | rfl | simp [Around.under, Code.cUnits, Code.frames, Code.isFrame]
theorem Room.make {k : Nat} {A : Around} (r : Room (k + 1) A) (C : Addr) (us : List Value) (kw : List (Str × Value)) : Room k (A.under (.builtin "type.__call__" ⟨.ref C :: us, kw⟩)) :=
  ⟨r.hd, by have := r.dp; rw [make_depth]; omega, by have := r.un; rw [make_units]; omega⟩
theorem Room.depth {k : Nat} {A : Around} (r : Room k A) : A.depth < recursionLimit := by have := r.dp; omega
theorem Room.units {k : Nat} {A : Around} (r : Room k A) : A.units + 64 < cLine := by have := r.un; omega

/-! ### argument lists and displays -/
def tNil : TA := fun _ H Q => Q [] H
def tCons (ta : TE) (tr : TA) : TA := fun σ H Q => ta σ H fun x H1 => tr σ H1 fun xs H2 => Q (x :: xs) H2
section
variable {X : Cx} {e : Expr} {es : List Expr} {te : TE} {t : TA} {pos : Pos}
theorem pa_nil : PA X [] tNil := fun _ _ _ _ H Q I h => Calls.spliced_nil ⟨[], H, I, .nil, h⟩
theorem pa_cons (ha : PE X e te) (hr : PA X es t) (hs : starEach (e :: es) X.env = (false, eval e X.env) :: starEach es X.env := by rfl) : PA X (e :: es) (tCons te t) := by
  intro pos pins s σ H Q I h
  rw [hs]
  show wpAny _ _ (spliced ((false, eval e X.env) :: backTo pos (starEach es X.env))) _ _ s
  refine Calls.spliced_cons (thn (ha pins s σ H _ I h) fun u s1 ⟨x, H1, I1, r1, q1⟩ => ?_)
  exact thn (hr pos pins s1 σ H1 _ I1 q1) fun us s2 ⟨xs, H2, I2, r2, q2⟩ => ⟨x :: xs, H2, I2, .cons r1 r2, q2⟩

/-- a tuple, a list of written items -/
def tTup (t : TA) : TE := fun σ H Q => t σ H fun xs H1 => xs.length ≤ sizeLine ∧ ∀ p, H1 p = none → Q (.ref p) (upd H1 p (.tup xs))
def tLst (t : TA) : TE := fun σ H Q => t σ H fun xs H1 => xs.length ≤ sizeLine ∧ ∀ p, H1 p = none → Q (.ref p) (upd H1 p (.lst xs))
theorem pe_tup {x1} (h : PA X es t) : PE X (.Tuple es x1 pos) (tTup t) := by
  intro pins s σ H Q I hq
  refine wpAny_Tuple_spliced (thn (h pos pins s σ H _ I hq) fun us s1 ⟨xs, H1, I1, r, z, q⟩ => ⟨by rw [← r.length]; exact z, ?_⟩)
  have hf : H1 s1.heap.objs.size = none := I1.hok.fresh (Nat.le_refl _)
  refine ⟨.ref s1.heap.objs.size, upd H1 s1.heap.objs.size (.tup xs), I1.laid (t' := s1.toks) (fun b u e => Heap.get?_push_of_some _ e) (Nat.le_refl _) ?_, rfl, q _ hf⟩
  exact ⟨z, us, r, ⟨_, Heap.get?_push_size _ rfl, rfl, _, rfl⟩⟩
theorem pe_lst (h : PA X es t) : PE X (.List es pos) (tLst t) := by
  intro pins s σ H Q I hq
  refine wpAny_List_spliced (thn (h pos pins s σ H _ I hq) fun us s1 ⟨xs, H1, I1, r, z, q⟩ => ⟨by rw [← r.length]; exact z, ?_⟩)
  have hf : H1 s1.heap.objs.size = none := I1.hok.fresh (Nat.le_refl _)
  refine ⟨.ref s1.heap.objs.size, upd H1 s1.heap.objs.size (.lst xs), I1.laid (t' := s1.toks) (fun b u e => Heap.get?_push_of_some _ e) (Nat.le_refl _) ?_, rfl, q _ hf⟩
  exact ⟨z, us, 0, r, Heap.get?_push_size _ rfl⟩
end

/-! ### what a def promises -/
/-- a def's promise: the bound arguments in the parameters' order, the heap, the wanted end, the wanted exception -/
abbrev Sp := List V → Hp → VK → XK → Prop
/-- how an exception lies behind a call (file 08 gives it): the callers' frames, abstract heap and state ahead of the call, the wish, the exception, the state -/
abbrev CXT := List Env → Hp → Shared → XK → Value → Shared → Prop

/-- the state at a call -/
structure Env0 (P : Program) (w : World) (K : PySem.W.Frag) (mg : Str → Option Value) (base : Heap) (A : Around) (outer : List Env) (s : Shared) (H : Hp) : Prop where
  frames : A.frames = some outer
  mod : Mod K mg base
  bs : ∀ b o, base.get? b = some o → s.heap.get? b = some o ∧ H b = none
  bsz : base.objs.size ≤ s.heap.objs.size
  funs : s.heap.FunFrames base outer
  frf : ∀ b ∈ frs outer, H b = none
  hok : HOk P w H s.heap
  bare : AllBare s.gens
/-- a call's end -/
def CE (outer : List Env) (P : Program) (w : World) (H : Hp) (s : Shared) (Q : VK) (u : Value) (s' : Shared) : Prop :=
  ∃ v H', s'.os = s.os ∧ AllBare s'.gens ∧ Un (frs outer) [] H H' s.heap s'.heap ∧ HOk P w H' s'.heap ∧ RelV v u ∧ Q v H'
def CR (CX : CXT) (outer : List Env) (P : Program) (w : World) (H : Hp) (s : Shared) (Q : VK) (E : XK) (r : Result) (s' : Shared) : Prop :=
  match r with
  | .ok (.ret u) => CE outer P w H s Q u s'
  | .ok _ => False
  | .error e => CX outer H s E e s'
structure FnOk (P : Program) (w : World) (K : PySem.W.Frag) (mg : Str → Option Value) (base : Heap) (CX : CXT) (k : Nat) (f : Addr) (fd : FuncData) (ps : List Str) (sp : Sp) : Prop where
  len : ∀ vs H Q E, sp vs H Q E → vs.length = ps.length
  run : ∀ (A : Around) (outer : List Env) (s : Shared) (H : Hp) (args : Args) (us : List Value) (vs : List V) (Q : VK) (E : XK), Room k A → Env0 P w K mg base A outer s H → BindsTo s fd args (ps.zip us) → Vals vs us → sp vs H Q E →
    codeAny (model P w) A (.call (.ref f) args) (CR CX outer P w H s Q E) s
theorem FnOk.mono {P : Program} {w : World} {K : PySem.W.Frag} {mg : Str → Option Value} {base : Heap} {CX : CXT} {j k : Nat} {f : Addr} {fd : FuncData} {ps : List Str} {sp : Sp} (F : FnOk P w K mg base CX j f fd ps sp) (h : j ≤ k) :
    FnOk P w K mg base CX k f fd ps sp := ⟨F.len, fun A outer s H args us vs Q E hr => F.run A outer s H args us vs Q E (hr.mono h)⟩

theorem Env0.make {P : Program} {w : World} {K : PySem.W.Frag} {mg : Str → Option Value} {base : Heap} {A : Around} {outer : List Env} {s : Shared} {H : Hp} (e : Env0 P w K mg base A outer s H) (C : Addr) (us : List Value) (kw : List (Str × Value)) :
    Env0 P w K mg base (A.under (.builtin "type.__call__" ⟨.ref C :: us, kw⟩)) outer s H := ⟨by first | exact e.frames | (simpa [Around.under, Code.envs, Code.isFrame, pushEnvs] using e.frames), e.mod, e.bs, e.bsz, e.funs, e.frf, e.hok, e.bare⟩

section
variable {X : Cx} {pins : List (Addr × Obj)} {σ : St} {H : Hp} {s s' : Shared}
/-- from a body: what a callee wants -/
theorem Inv.env0 (I : Inv X pins σ H s) : Env0 X.prog X.w X.K X.mg X.base X.A X.stack s H :=
  ⟨I.ok.frames, I.ok.mod, I.bs, Nat.le_trans I.ok.bsz I.sz, I.stack, I.stkFree, I.hok, I.bare⟩
/-- behind a call -/
theorem Inv.after {Q : VK} {u : Value} (I : Inv X pins σ H s) (h : CE X.stack X.prog X.w H s Q u s') : EP X pins σ Q u s' := by
  obtain ⟨v, H', os, bare, un, hok, r, q⟩ := h
  obtain ⟨hh, g, d, t, os'⟩ := s'
  obtain rfl : os' = s.os := os
  exact ⟨v, H', I.call (h' := hh) (g' := g) (d' := d) (t' := t) (ch := []) un hok bare (fun b z => absurd z (by simp)), r, q⟩
end

/-! ### calls -/
/-- f(..): the written arguments, then the defaults dvs; E: what is wanted of an exception -/
def tCall (sp : Sp) (dvs : List V) (E : XK) (t : TA) : TE := fun σ H Q => t σ H fun vs H1 => sp (vs ++ dvs) H1 Q E
/-- o.m(..) of an instance of the class at C -/
def tMeth (C : Addr) (m : Str) (sp : Sp) (dvs : List V) (E : XK) (ta : TE) (t : TA) : TE := fun σ H Q => ta σ H fun x H1 => ∃ a dx fs, x = .ref a ∧ H1 a = some (.ins C dx fs) ∧ fs.lookup m = none ∧
  t σ H1 fun vs H2 => sp (x :: (vs ++ dvs)) H2 Q E
/-- C(..): a new instance and its dict, then __init__ -/
def tMake (C : Addr) (sp : Sp) (dvs : List V) (E : XK) (t : TA) : TE := fun σ H Q => t σ H fun vs H1 => ∀ x dx, H1 x = none → H1 dx = none → dx ≠ x →
  sp (.ref x :: (vs ++ dvs)) (upd (upd H1 dx (.own x)) x (.ins C dx [])) (fun v H2 => v = .non ∧ Q (.ref x) H2) E

/-- how the parameters are bound: us the positional arguments, kw the keywords' values by name, ds the defaults that fill up -/
def Binds (K : PySem.W.Frag) (fd : FuncData) (ps : List Str) (ds : List Value) : Prop :=
  ∀ (s : Shared) (us : List Value), K.In s.heap → (us ++ ds).length = ps.length → BindsTo s fd ⟨us, []⟩ (ps.zip (us ++ ds))
/-- every parameter is given -/
theorem Binds.all {K : PySem.W.Frag} {fd : FuncData} {ps : List Str} (h : ∀ us : List Value, us.length = ps.length → bindArgs fd ⟨us, []⟩ = pure (ps.zip us)) : Binds K fd ps [] := fun s us _ hl => by
  rw [List.append_nil] at hl ⊢
  exact .of_eq (h us hl)

/-- an exception of a callee reaches what this body wants of exceptions -/
def Passes (CX : CXT) (X : Cx) (E : XK) : Prop := ∀ (pins : List (Addr × Obj)) (σ : St) (H : Hp) (s : Shared) (e : Value) (s' : Shared), Inv X pins σ H s → CX X.stack H s E e s' → X.xe e s'

section
variable {X : Cx} {CX : CXT} {k : Nat} {f C : Addr} {fd : FuncData} {ps : List Str} {sp : Sp} {dvs : List V} {ds : List Value} {E : XK} {x m : Str} {p pos apos : Pos} {e o : Expr} {es : List Expr} {ta : TE} {t : TA}

/-- the callee runs -/
theorem run_fn {pins : List (Addr × Obj)} {σ : St} {H : Hp} {s : Shared} {Q : VK} {us : List Value} {vs : List V} (F : FnOk X.prog X.w X.K X.mg X.base CX k f fd ps sp) (hr : Room k X.A) (hb : Binds X.K fd ps ds) (hd : Vals dvs ds) (hx : Passes CX X E)
    (I : Inv X pins σ H s) (r : Vals vs us) (h : sp (vs ++ dvs) H Q E) : wpAny (model X.prog X.w) X.A (call (.ref f) us) (EP X pins σ Q) X.xe s := by
  have r2 : Vals (vs ++ dvs) (us ++ ds) := r.append hd
  have hl : (us ++ ds).length = ps.length := by rw [← r2.length]; exact F.len _ _ _ _ h
  refine wpAny_call (codeAny_mono (F.run X.A X.stack s H ⟨us, []⟩ (us ++ ds) (vs ++ dvs) Q E hr I.env0 (hb s us I.kIn hl) r2 h) fun r s' hq => ?_)
  cases r with
  | error e => exact hx pins σ H s e s' I hq
  | ok fl =>
    cases fl with
    | ret u => exact I.after hq
    | next => exact False.elim hq
    | brk => exact False.elim hq
    | cont => exact False.elim hq

theorem pe_call (F : FnOk X.prog X.w X.K X.mg X.base CX k f fd ps sp) (hr : Room k X.A) (hg : Gl X x) (hm : X.mg x = some (.ref f)) (hk : PySem.W.keepIn X.K (.ref f) = true) (hb : Binds X.K fd ps ds) (hd : Vals dvs ds) (hx : Passes CX X E)
    (ha : PA X (e :: es) t) (hdb : (x == ("__debug__" : Str)) = false := by decide) (he : starEach (e :: es) X.env = (false, eval e X.env) :: starEach es X.env := by rfl) (hpl : (backTo pos (starEach es X.env)).any (·.1) = false := by rfl) :
    PE X (.Call (.Name x p) (e :: es) [] pos) (tCall sp dvs E t) := by
  intro pins s σ H Q I h
  refine wpAny_Call_Name_kw (ld_glob I hg hm ?_ hdb)
  refine PySem.W.callWith_K (h₀ := X.base) I.ok.mod.kin hk (thn (ha pos pins s σ H _ I h) fun us s1 ⟨vs, H1, I1, r, q⟩ => ⟨I1.kIn, ?_⟩) he hpl
  exact run_fn F hr hb hd hx I1 r q

/-- o.m(e, ..) -/
theorem pe_meth {pl : Sem Bool} (he : PE X o ta) (c : Cls X.K C) (hm : Meth X.K C m f) (F : FnOk X.prog X.w X.K X.mg X.base CX k f fd ps sp) (hr : Room k X.A) (hb : Binds X.K fd ps ds) (hd : Vals dvs ds) (hx : Passes CX X E) (ha : PA X (e :: es) t)
    (hst : starEach (e :: es) X.env = (false, eval e X.env) :: starEach es X.env := by rfl) (hpl : (backTo pos (starEach es X.env)).any (·.1) = false := by rfl)
    (ht : eval (.Call (.Attribute o m apos) (e :: es) [] pos) X.env = (do
      let ov ← eval o X.env
      standAt apos.atName
      let (f, first) ← holding [ov] (getMethod ov m pl)
      callWith pos f first (backTo pos (starEach (e :: es) X.env)) (backToKw pos (keywordEach [] X.env))) := by rfl) :
    PE X (.Call (.Attribute o m apos) (e :: es) [] pos) (tMeth C m sp dvs E ta t) := by
  intro pins s σ H Q I h
  refine PySem.W.methodCall_KW (pl := pl) (thn (he pins s σ H _ I h) fun u s1 ⟨x, H1, I1, rx, a, dx, fs, ex, ea, l, q⟩ => ?_) ht
  subst ex
  obtain rfl : u = Value.ref a := rx
  refine getmeth_ok I1 ea c hm l ?_
  refine PySem.W.callWith_K (first := [.ref a]) (h₀ := X.base) I.ok.mod.kin hm.kp (thn (ha pos pins s1 σ H1 _ I1 q) fun us s2 ⟨vs, H2, I2, r, q2⟩ => ⟨I2.kIn, ?_⟩) hst hpl
  exact run_fn (us := .ref a :: us) (vs := .ref a :: vs) F hr hb hd hx I2 (.cons rfl r) q2
/-- o.m() -/
theorem pe_meth0 {pl : Sem Bool} (he : PE X o ta) (c : Cls X.K C) (hm : Meth X.K C m f) (F : FnOk X.prog X.w X.K X.mg X.base CX k f fd ps sp) (hr : Room k X.A) (hb : Binds X.K fd ps ds) (hd : Vals dvs ds) (hx : Passes CX X E)
    (ht : eval (.Call (.Attribute o m apos) [] [] pos) X.env = (do
      let ov ← eval o X.env
      standAt apos.atName
      let (f, first) ← holding [ov] (getMethod ov m pl)
      callWith pos f first (backTo pos (starEach [] X.env)) (backToKw pos (keywordEach [] X.env))) := by rfl) :
    PE X (.Call (.Attribute o m apos) [] [] pos) (tMeth C m sp dvs E ta tNil) := by
  intro pins s σ H Q I h
  refine PySem.W.methodCall_KW (pl := pl) (thn (he pins s σ H _ I h) fun u s1 ⟨x, H1, I1, rx, a, dx, fs, ex, ea, l, q⟩ => ?_) ht
  subst ex
  obtain rfl : u = Value.ref a := rx
  refine getmeth_ok I1 ea c hm l ?_
  exact PySem.W.callWith_K0 (first := [.ref a]) I1.kIn hm.kp (run_fn (us := [.ref a]) (vs := [.ref a]) F hr hb hd hx I1 (.cons rfl .nil) q)

/-- what a class must have to be made -/
structure Mk (K : PySem.W.Frag) (C f : Addr) : Prop where
  makes : PySem.W.makesIn K C = true
  init : PySem.W.findIn K (.ref C) "__init__" = some (some (.ref f))
  fn : PySem.W.isFn K (.ref f) = true
  kp : PySem.W.keepIn K (.ref C) = true

theorem run_make {pins : List (Addr × Obj)} {σ : St} {H : Hp} {s : Shared} {Q : VK} {us : List Value} {vs : List V} (M : Mk X.K C f) (F : FnOk X.prog X.w X.K X.mg X.base CX k f fd ps sp) (hr : Room (k + 1) X.A) (hb : Binds X.K fd ps ds) (hd : Vals dvs ds)
    (hx : Passes CX X E) (I : Inv X pins σ H s) (r : Vals vs us)
    (h : ∀ x dx, H x = none → H dx = none → dx ≠ x → sp (.ref x :: (vs ++ dvs)) (upd (upd H dx (.own x)) x (.ins C dx [])) (fun v H2 => v = .non ∧ Q (.ref x) H2) E) :
    wpAny (model X.prog X.w) X.A (call (.ref C) us) (EP X pins σ Q) X.xe s := by
  have hq := h (s.heap.objs.size + 1) s.heap.objs.size (I.hok.fresh (Nat.le_succ _)) (I.hok.fresh (Nat.le_refl _)) (Nat.ne_of_lt (Nat.lt_succ_self _))
  have I2 := Inv.made (C := C) I
  have r2 : Vals (V.ref (s.heap.objs.size + 1) :: (vs ++ dvs)) (Value.ref (s.heap.objs.size + 1) :: (us ++ ds)) := .cons rfl (r.append hd)
  have hl : (Value.ref (s.heap.objs.size + 1) :: us ++ ds).length = ps.length := by
    have e := r2.length
    rw [F.len _ _ _ _ hq] at e
    exact e.symm
  refine wpAny_call (make_map (f := f) I.kIn M.makes M.init (beq_iff_eq.mp M.fn) (codeAny_mono (F.run _ X.stack _ _ ⟨Value.ref (s.heap.objs.size + 1) :: us, []⟩ (Value.ref (s.heap.objs.size + 1) :: (us ++ ds)) _ _ E (hr.make C us [])
    (I2.env0.make C us []) (hb _ (Value.ref (s.heap.objs.size + 1) :: us) I2.kIn hl) r2 hq) fun r s' hq' => ?_))
  cases r with
  | error e => exact hx pins σ _ _ e s' I2 hq'
  | ok fl =>
    cases fl with
    | ret u =>
      obtain ⟨v, H', I3, rv, ev, q3⟩ := I2.after hq'
      subst ev
      exact ⟨rv, ⟨V.ref (s.heap.objs.size + 1), H', I3, rfl, q3⟩⟩
    | next => exact False.elim hq'
    | brk => exact False.elim hq'
    | cont => exact False.elim hq'
theorem pe_make (M : Mk X.K C f) (F : FnOk X.prog X.w X.K X.mg X.base CX k f fd ps sp) (hr : Room (k + 1) X.A) (hg : Gl X x) (hm : X.mg x = some (.ref C)) (hb : Binds X.K fd ps ds) (hd : Vals dvs ds) (hx : Passes CX X E)
    (ha : PA X (e :: es) t) (hdb : (x == ("__debug__" : Str)) = false := by decide) (he : starEach (e :: es) X.env = (false, eval e X.env) :: starEach es X.env := by rfl) (hpl : (backTo pos (starEach es X.env)).any (·.1) = false := by rfl) :
    PE X (.Call (.Name x p) (e :: es) [] pos) (tMake C sp dvs E t) := by
  intro pins s σ H Q I h
  refine wpAny_Call_Name_kw (ld_glob I hg hm ?_ hdb)
  refine PySem.W.callWith_K (h₀ := X.base) I.ok.mod.kin M.kp (thn (ha pos pins s σ H _ I h) fun us s1 ⟨vs, H1, I1, r, q⟩ => ⟨I1.kIn, ?_⟩) he hpl
  exact run_make M F hr hb hd hx I1 r q
theorem pe_make0 (M : Mk X.K C f) (F : FnOk X.prog X.w X.K X.mg X.base CX k f fd ps sp) (hr : Room (k + 1) X.A) (hg : Gl X x) (hm : X.mg x = some (.ref C)) (hb : Binds X.K fd ps ds) (hd : Vals dvs ds) (hx : Passes CX X E)
    (hdb : (x == ("__debug__" : Str)) = false := by decide) : PE X (.Call (.Name x p) [] [] pos) (tMake C sp dvs E tNil) := by
  intro pins s σ H Q I h
  refine wpAny_Call_Name_kw (ld_glob I hg hm ?_ hdb)
  exact PySem.W.callWith_K0 I.kIn M.kp (run_make (us := []) M F hr hb hd hx I .nil h)
end

/-! ### keywords -/
section
variable {X : Cx} {CX : CXT} {k : Nat} {f C : Addr} {fd : FuncData} {ps ks : List Str} {sp : Sp} {E : XK} {x m : Str} {p pos apos kpos : Pos} {e o : Expr} {es : List Expr} {kws : List Keyword} {te ta : TE} {t tk : TA} {nm : Option Str}

variable {g : List Value → List Value → List Value} {gV : List V → List V → List V}
end

/-! ### a def's body keeps its promise -/
/-- names: the parameters first -/
structure FnScope (N P : List Str) (sc : Scope) : Prop where
  kind : sc.kind = .function
  co : sc.isCoroutine = false
  gen : sc.isGenerator = false
  nd : N.Nodup
  pre : N.take P.length = P
  par : ∀ x ∈ P, sc.names.lookup x = some .local ∨ sc.names.lookup x = some .cell
  nofree : ∀ y ∈ sc.names, y.2 ≠ .free

theorem bindL_out {kindOf : Str → Option NameKind} {x : Str} : ∀ {binds : List (Str × Value)} {m : Str → Option Value}, (∀ v, (x, v) ∉ binds) → bindL kindOf binds m x = m x
  | [], _, _ => rfl
  | (n, v) :: r, m, h => by
    unfold bindL
    rw [bindL_out fun w hw => h w (List.mem_cons_of_mem _ hw)]
    split
    · have : x ≠ n := by rintro rfl; exact h v List.mem_cons_self
      simp [this]
    · rfl
theorem bindC_out {kindOf : Str → Option NameKind} {x : Str} : ∀ {binds : List (Str × Value)} {m : Str → Option Value}, (∀ v, (x, v) ∉ binds) → bindC kindOf binds m x = m x
  | [], _, _ => rfl
  | (n, v) :: r, m, h => by
    unfold bindC
    rw [bindC_out fun w hw => h w (List.mem_cons_of_mem _ hw)]
    split
    · rfl
    · have : x ≠ n := by rintro rfl; exact h v List.mem_cons_self
      simp [this]
theorem bindL_get {kindOf : Str → Option NameKind} {x : Str} {v : Value} : ∀ {P : List Str} {vs : List Value} {i : Nat} {m : Str → Option Value}, P.Nodup → P[i]? = some x → vs[i]? = some v → kindOf x = some .local →
    bindL kindOf (P.zip vs) m x = some v
  | [], _, _, _, _, h, _, _ => by simp at h
  | _ :: _, [], _, _, _, _, h, _ => by simp at h
  | p :: P, w :: vs, 0, m, nd, h1, h2, hk => by
    simp at h1 h2; subst h1; subst h2
    show bindL kindOf ((p, w) :: P.zip vs) m p = _
    unfold bindL
    rw [bindL_out fun v hv => (List.nodup_cons.mp nd).1 (List.of_mem_zip hv).1, if_pos hk]
    simp
  | p :: P, w :: vs, i + 1, m, nd, h1, h2, hk => by
    show bindL kindOf ((p, w) :: P.zip vs) m x = _
    unfold bindL
    exact bindL_get (i := i) (List.nodup_cons.mp nd).2 (by simpa using h1) (by simpa using h2) hk
theorem bindC_get {kindOf : Str → Option NameKind} {x : Str} {v : Value} : ∀ {P : List Str} {vs : List Value} {i : Nat} {m : Str → Option Value}, P.Nodup → P[i]? = some x → vs[i]? = some v → kindOf x ≠ some .local →
    bindC kindOf (P.zip vs) m x = some v
  | [], _, _, _, _, h, _, _ => by simp at h
  | _ :: _, [], _, _, _, _, h, _ => by simp at h
  | p :: P, w :: vs, 0, m, nd, h1, h2, hk => by
    simp at h1 h2; subst h1; subst h2
    show bindC kindOf ((p, w) :: P.zip vs) m p = _
    unfold bindC
    rw [bindC_out fun v hv => (List.nodup_cons.mp nd).1 (List.of_mem_zip hv).1, if_neg hk]
    simp
  | p :: P, w :: vs, i + 1, m, nd, h1, h2, hk => by
    show bindC kindOf ((p, w) :: P.zip vs) m x = _
    unfold bindC
    exact bindC_get (i := i) (List.nodup_cons.mp nd).2 (by simpa using h1) (by simpa using h2) hk

/-- the names' values at the entry -/
def start (N : List Str) (vs : List V) : St := vs.map some ++ List.replicate (N.length - vs.length) none

/-- the context of a def's body, at its entry; an exception leaves the frame, then lies as CX says -/
def cxOf (CX : CXT) (P : Program) (w : World) (K : PySem.W.Frag) (mg : Str → Option Value) (base : Heap) (N : List Str) (qual : Str) (scope : Scope) (f : Addr) (cd : Value) (A : Around) (outer : List Env) (s : Shared) (H : Hp) (E : XK) : Cx where
  prog := P
  w := w
  K := K
  mg := mg
  base := base
  A := A.deeper (envOfC qual scope s.heap.objs.size f cd)
  N := N
  s_0 := s
  H_0 := H
  env := envOfC qual scope s.heap.objs.size f cd
  outer := outer
  stack := envOfC qual scope s.heap.objs.size f cd :: outer
  ex := []
  calm := true
  fn := fun _ => true
  pn := []
  xe := fun e s' => wpAny (model P w) (A.deeper (envOfC qual scope s.heap.objs.size f cd)) (leaving (envOfC qual scope s.heap.objs.size f cd) e) (fun _ s'' => CX outer H s E e s'') (fun e' s'' => CX outer H s E e' s'') s'

theorem cell_has {sc : Scope} {n : Nat} {x : Str} (h : sc.names.lookup x = some .cell) : ∃ c, (cellsFrom n sc.names []).lookup x = some c := by
  have q := PySem.W.cellsFrom_some sc.names n [] (.inl h)
  exact Option.isSome_iff_exists.mp q

theorem inv_start {CX : CXT} {P : Program} {w : World} {K : PySem.W.Frag} {mg : Str → Option Value} {base : Heap} {N ps : List Str} {qual : Str} {scope : Scope} {f : Addr} {cd : Value} {A : Around} {outer : List Env} {s s1 : Shared} {H : Hp} {E : XK} {us : List Value} {vs : List V}
    (S : FnScope N ps scope) (hd : A.handled = none) (e0 : Env0 P w K mg base A outer s H) (hl : vs.length = ps.length) (r : Vals vs us)
    (x : InCallC s s.heap.objs.size (bindL (envOfC qual scope s.heap.objs.size f cd).kindOf (ps.zip us) fun _ => none) (cellsFrom (s.heap.objs.size + 1) scope.names []) (bindC (envOfC qual scope s.heap.objs.size f cd).kindOf (ps.zip us) fun _ => none) s1) :
    Inv (cxOf CX P w K mg base N qual scope f cd A outer s H E) [] (start N vs) H s1 := by
  have hpl : ps.length ≤ N.length := by have := congrArg List.length S.pre; rw [List.length_take] at this; omega
  obtain ⟨h1, tk, rfl, hk⟩ := x.done
  have noA : ∀ b : Addr, b ∉ (cxOf CX P w K mg base N qual scope f cd A outer s H E).ex := fun b z => absurd (show b ∈ ([] : List Addr) from z) (by simp)
  refine ⟨⟨e0.mod, S.kind, rfl, rfl, Nat.le_refl _, fun y z c h1 h2 => ?_, fun y hy => ?_, fun y c _ h => ?_, fun _ => hd, Around.frames_deeper e0.frames, .inr ⟨rfl, rfl⟩, fun b z => absurd z (noA b), e0.bs, e0.bsz, fun b _ _ => noA b, fun b z => absurd z (noA b), e0.funs, e0.frf⟩,
    rfl, e0.bare, Un.kept hk, ⟨_, x.toInCall.ns, fun i y v h1 h2 h3 => ?_⟩, fun y c h => ⟨_, x.cell y c h⟩, e0.hok.fresh (Nat.le_refl _), fun y c h => ?_, fun p hp => absurd (show p ∈ ([] : List (Addr × Obj)) from hp) (by simp), e0.hok.kept hk, ?_⟩
  · exact name_of_addr x.apart (PySem.mem_of_lookup h1) (PySem.mem_of_lookup h2)
  · have hy : scope.names.lookup y = some .cell ∨ scope.names.lookup y = some .free := hy
    rcases hy with hy | hy
    · exact cell_has hy
    · exact absurd rfl (S.nofree _ (PySem.mem_of_lookup hy))
  · exact Nat.le_of_lt (x.above y c (PySem.mem_of_lookup h))
  · have hi : i < vs.length := by
      unfold start at h2
      by_cases hi : i < vs.length
      · exact hi
      · rw [List.getElem?_append_right (by simpa using hi)] at h2
        rw [List.getElem?_replicate] at h2
        split at h2 <;> cases h2
    have ha : vs[i]? = some v := by
      unfold start at h2
      rw [List.getElem?_append_left (by simpa using hi), List.getElem?_map] at h2
      cases e : vs[i]? with
      | none => rw [e] at h2; cases h2
      | some a => rw [e] at h2; cases h2; rfl
    obtain ⟨u, hu, rv⟩ := r.get ha
    have hp : ps[i]? = some y := by
      rw [← S.pre, List.getElem?_take_of_lt (by omega)]; exact h1
    have ndP : ps.Nodup := by rw [← S.pre]; exact S.nd.sublist (List.take_sublist _ _)
    refine ⟨u, rv, ?_⟩
    rcases S.par y (List.mem_of_getElem? hp) with k | k
    · exact .inl ⟨k, bindL_get ndP hp hu k⟩
    · obtain ⟨c, e⟩ := cell_has (n := s.heap.objs.size + 1) k
      refine .inr ⟨.inl k, c, e, ?_⟩
      have q := x.cell y c e
      rw [bindC_get ndP hp hu (by show scope.names.lookup y ≠ _; rw [k]; decide)] at q
      exact q
  · exact e0.hok.fresh (Nat.le_of_lt (x.above y c (PySem.mem_of_lookup h)))
  · unfold start
    show _ = N.length
    rw [List.length_append, List.length_map, List.length_replicate]
    omega

/-- THE RULE: a def (or a method) of the text, by its body. The body's reading t is chosen for each entry; it is run at the parameters' values -/
theorem fn_of {CX : CXT} {P : Program} {w : World} {K : PySem.W.Frag} {mg : Str → Option Value} {base : Heap} {k : Nat} {f : Addr} {name qual : Str} {params : Arguments} {body : List Stmt} {scope : Scope} {dV kV doc pm cdv ct oc : Value} {an od : Option Addr}
    {osl : Array (Option Value)} {N ps : List Str} {sp : Sp} (lk : K.lookup f = some ⟨oc, od, .func (PySem.W.fnOf name qual params body scope dV kV doc pm an cdv ct), osl⟩) (hcd : PySem.W.codeIn K cdv qual = true) (S : FnScope N ps scope)
    (len : ∀ vs H Q E, sp vs H Q E → vs.length = ps.length)
    (hbody : ∀ (A : Around) (outer : List Env) (s : Shared) (H : Hp) (vs : List V) (Q : VK) (E : XK), Room k (A.deeper (envOfC qual scope s.heap.objs.size f cdv)) → sp vs H Q E →
      ∃ t, PSs (cxOf CX P w K mg base N qual scope f cdv A outer s H E) body t ∧ t { nx := fun _ H' => Q .non H', rt := Q } (start N vs) H) :
    FnOk P w K mg base CX (k + 1) f (PySem.W.fnOf name qual params body scope dV kV doc pm an cdv ct) ps sp := by
  refine ⟨len, fun A outer s H args us vs Q E hr e0 hb r hsp => ?_⟩
  have hl := len _ _ _ _ hsp
  have KX : K.In s.heap := e0.mod.kin.keeps fun b o e => (e0.bs b o e).1
  have lim : s.heap.NoLimit := e0.mod.nolimit.keeps fun b o e => (e0.bs b o e).1
  have hkind : ∀ y ∈ ps.zip us, scope.names.lookup y.1 = some .local ∨ (scope.names.lookup y.1 = some .cell ∧ ((cellsFrom (s.heap.objs.size + 1) scope.names []).lookup y.1).isSome = true) := fun ⟨n, v⟩ hy => by
    rcases S.par n (List.of_mem_zip hy).1 with q | q
    · exact .inl q
    · exact .inr ⟨q, PySem.W.cellsFrom_some _ _ _ (.inl q)⟩
  refine codeAny_call_function hr.depth (KX _ _ lk) rfl S.co S.gen rfl (PySem.W.codeRec_of KX hcd) (hb _ _ _ _ ?_)
  refine wpAny_newFunctionEnv_cells S.kind hkind fun env he s1 x => ?_
  subst he
  refine ⟨lim.keeps x.toInCall.keep, codeAny_func ?_⟩
  obtain ⟨t, ht, hq⟩ := hbody A outer s H vs Q E (hr.deeper _) hsp
  have I : Inv (cxOf CX P w K mg base N qual scope f cdv A outer s H E) [] (start N vs) H s1 := inv_start S hr.hd e0 hl r x
  refine wpAny_mono (ht [] s1 (start N vs) H _ I hq) (fun fl s' hs => ?_) fun e s' hs => hs
  have fin : ∀ {σ' : St} {H' : Hp} {v : V} {u : Value}, Inv (cxOf CX P w K mg base N qual scope f cdv A outer s H E) [] σ' H' s' → RelV v u → Q v H' → CE outer P w H s Q u s' :=
    fun {σ' H' v u} J rv q => ⟨v, H', J.os, J.bare, J.base, J.hok, rv, q⟩
  cases fl with
  | ret u =>
    obtain ⟨v, σ', H', J, rv, q⟩ := hs
    exact fin J rv q
  | next =>
    obtain ⟨σ', H', J, q⟩ := hs
    exact fin (v := V.non) (u := Value.none) J rfl q
  | brk =>
    obtain ⟨_, _, _, q⟩ := hs
    exact False.elim q
  | cont =>
    obtain ⟨_, _, _, q⟩ := hs
    exact False.elim q
end L2

namespace L2
open PySem PySem.Spec PyProof.Rows
section
variable {X : Cx} {x : Str} {p pos : Pos} {e : Expr} {es : List Expr} {t : TA} {id T : String} {r : List V → Hp → VK → Prop}

def tCB (r : List V → Hp → VK → Prop) (t : TA) : TE := fun σ H Q => t σ H fun vs H1 => r vs H1 Q
/-- f(e, ..), f a built-in function -/
theorem pe_callB (hc : CallR X (.builtin id) r) (hg : Gl X x) (hm : X.mg x = none) (hv : bootBuiltins x = some (.builtin id)) (ha : PA X (e :: es) t) (hn : x ≠ "__name__" := by decide) (hdb : (x == ("__debug__" : Str)) = false := by decide)
    (he : starEach (e :: es) X.env = (false, eval e X.env) :: starEach es X.env := by rfl) (hpl : (backTo pos (starEach es X.env)).any (·.1) = false := by rfl) : PE X (.Call (.Name x p) (e :: es) [] pos) (tCB r t) := by
  intro pins s σ H Q I h
  refine wpAny_Call_Name_kw (ld_blt I hg hm hv ?_ hn hdb)
  exact PyProof.Rows.callWith_builtin1 (thn (ha pos pins s σ H _ I h) fun us s1 ⟨vs, H1, I1, r1, q1⟩ => hc pins s1 σ H1 vs us Q I1 r1 q1) he hpl
end
end L2

namespace HT
open PySem PyProof.Rows



section
open PySem.SeqAt
open PySem.AutoSeq1 (wpAny_loadPart')
open PySem.MeetsSeq PySem.MeetsSeq2 PySem.MeetsSeq3

end

section
variable {prog : Program} {w : World} {A : Around} {E : Value → Shared → Prop} {s : Shared}



/-! ### t[a:b], not the whole -/
/-- a slice's bound as a place among n (d where it is left out) -/
def sIx (n d : Nat) : Option Int → Nat
  | none => d
  | some v => if v < 0 then (v + (n : Int)).toNat else min v.toNat n
theorem sIx_none (n d : Nat) : sIx n d none = d := rfl
theorem sIx_nat (n d k : Nat) : sIx n d (some (k : Int)) = min k n := by
  show (if (k : Int) < 0 then ((k : Int) + (n : Int)).toNat else min (k : Int).toNat n) = min k n
  rw [if_neg (by omega), Int.toNat_natCast]

end
end HT

namespace L2
open PySem PySem.Spec PyProof.Rows

/-! ### the parts of a slice -/
abbrev TO := St → Hp → (Option Int → Hp → Prop) → Prop
/-- a slice's part (left out, or an int) -/
def PO (X : Cx) (e : Option Expr) (t : TO) : Prop :=
  ∀ (pins : List (Addr × Obj)) (s : Shared) (σ : St) (H : Hp) (Q : Option Int → Hp → Prop), Inv X pins σ H s → t σ H Q →
    wpAny (model X.prog X.w) X.A (evalPart e X.env) (fun u s' => ∃ o H', Inv X pins σ H' s' ∧ IsPart u o ∧ Q o H') X.xe s
def tNoPart : TO := fun _ H Q => Q none H
def tPart (t : TE) : TO := fun σ H Q => t σ H fun x H1 => ∃ i, x = .int i ∧ Q (some i) H1


section
variable {X : Cx} {e : Expr} {te : TE} {lo hi : Option Expr} {tl th : TO} {pos p2 : Pos}

theorem po_none : PO X none tNoPart := by
  intro pins s σ H Q I h
  rw [evalPart_none]
  exact wpAny_pure ⟨none, H, I, .none, h⟩
theorem po_some (h : PE X e te) : PO X (some e) (tPart te) := by
  intro pins s σ H Q I hw
  rw [evalPart_some]
  refine thn (h pins s σ H _ I hw) fun u s1 ⟨x, H1, I1, r1, q1⟩ => ?_
  obtain ⟨i, rfl, q⟩ := q1
  obtain ⟨t, rfl⟩ := r1
  exact ⟨some i, H1, I1, .int i t, q⟩

/-- what a slice of a value is, by values: the slice object stands at sl -/
def SlR (X : Cx) (r : V → Option Int → Option Int → Hp → VK → Prop) : Prop :=
  ∀ (pins : List (Addr × Obj)) (s : Shared) (σ : St) (H : Hp) (x : V) (v vl vu : Value) (lo hi : Option Int) (sl : Addr) (Q : VK), Inv X pins σ H s → RelV x v → s.heap.IsSliceOf sl vl vu .none → IsPart vl lo → IsPart vu hi → r x lo hi H Q →
    ∃ T id, typeLookup (.type T) "__getitem__" = pure (some (.builtin id)) ∧ s.TypeIs v T ∧ wpAny (model X.prog X.w) X.A (getItem v (.ref sl)) (EP X pins σ Q) X.xe s
def tSl (r : V → Option Int → Option Int → Hp → VK → Prop) (te : TE) (tl th : TO) : TE := fun σ H Q => te σ H fun x H1 => tl σ H1 fun l H2 => th σ H2 fun u H3 => r x l u H3 Q
/-- a[lo:hi], any a -/
theorem pe_slice {r : V → Option Int → Option Int → Hp → VK → Prop} (hr : SlR X r) (he : PE X e te) (hl : PO X lo tl) (hu : PO X hi th) : PE X (.Subscript e (.Slice lo hi none p2) pos) (tSl r te tl th) := by
  intro pins s σ H Q I h
  refine Subscript_ (thn (he pins s σ H _ I h) fun v s1 ⟨x, H1, I1, r1, q1⟩ => ?_)
  refine wpAny_Slice (thn (hl pins s1 σ H1 _ I1 q1) fun vl s2 ⟨l, H2, I2, pl, q2⟩ => thn (hu pins s2 σ H2 _ I2 q2) fun vu s3 ⟨u, H3, I3, pu, q3⟩ => ?_)
  rw [evalPart_none]
  refine wpAny_pure ?_
  have I4 : Inv X pins σ H3 { s3 with heap := s3.heap.push { cls := .type "slice", data := .fields #[vl, vu, .none] } } := I3.kept (t' := s3.toks) fun b ob q => Heap.get?_push_of_some _ q
  obtain ⟨T, id, hT, ht, hg⟩ := hr pins { s3 with heap := s3.heap.push { cls := .type "slice", data := .fields #[vl, vu, .none] } } σ H3 x v vl vu l u s3.heap.objs.size Q I4 r1 (Heap.IsSliceOf.new ..) pl pu q3
  show wpAny (model X.prog X.w) X.A (subscriptTail e (.Slice lo hi none p2) v (.ref s3.heap.objs.size)) (EP X pins σ Q) X.xe { s3 with heap := s3.heap.push { cls := .type "slice", data := .fields #[vl, vu, .none] } }
  exact tail_any (ops := [.ref s3.heap.objs.size, v]) ht hT hg (by with_unfolding_all rfl)

/-- the items of xs[lo:hi] -/
def cutV (xs : List V) (lo hi : Option Int) : List V := (xs.drop (HT.sIx xs.length 0 lo)).take (HT.sIx xs.length xs.length hi - HT.sIx xs.length 0 lo)
theorem cutV_length (xs : List V) (lo hi : Option Int) : (cutV xs lo hi).length ≤ xs.length := by
  unfold cutV
  rw [List.length_take, List.length_drop]
  omega

/-! ### t < u, t + u -/
end
end L2

namespace L2
open PySem PySem.Spec PyProof.Rows

/-! ### places -/
/-- the place that an index of any sign means -/
def ixN (n : Nat) (i : Int) : Option Nat := if 0 ≤ i then (if i < n then some i.toNat else none) else if -(n : Int) ≤ i then some (i + n).toNat else none
def atI {α : Type} (xs : List α) (i : Int) : Option α := (ixN xs.length i).bind fun j => xs[j]?
theorem ixN_seq {n : Nat} {i : Int} {j : Nat} (h : ixN n i = some j) : seqIndex? i n = some j ∧ j < n ∧ -(n : Int) ≤ i ∧ i < n := by
  unfold ixN at h
  by_cases h0 : 0 ≤ i
  · rw [if_pos h0] at h
    by_cases h1 : i < n
    · rw [if_pos h1] at h
      have e : i.toNat = j := Option.some.inj h
      exact ⟨by rw [seqIndex_of h0 h1, e], by omega, by omega, h1⟩
    · rw [if_neg h1] at h; cases h
  · rw [if_neg h0] at h
    by_cases h1 : -(n : Int) ≤ i
    · rw [if_pos h1] at h
      have e : (i + n).toNat = j := Option.some.inj h
      exact ⟨by rw [seqIndex_neg (by omega) h1, e], by omega, h1, by omega⟩
    · rw [if_neg h1] at h; cases h
theorem atI_get {α : Type} {xs : List α} {i : Int} {v : α} (h : atI xs i = some v) : ∃ j, seqIndex? i xs.length = some j ∧ xs[j]? = some v ∧ j < xs.length ∧ -(xs.length : Int) ≤ i ∧ i < xs.length := by
  unfold atI at h
  cases e : ixN xs.length i with
  | none => rw [e] at h; cases h
  | some j =>
    rw [e] at h
    obtain ⟨h1, h2, h3, h4⟩ := ixN_seq e
    exact ⟨j, h1, h, h2, h3, h4⟩
theorem atI_nat {α : Type} {xs : List α} {j : Nat} {v : α} (h : xs[j]? = some v) : atI xs (j : Int) = some v := by
  have hj : j < xs.length := (List.getElem?_eq_some_iff.mp h).1
  have e : ixN xs.length (j : Int) = some j := by
    unfold ixN
    rw [if_pos (by omega), if_pos (by omega)]; simp
  unfold atI; rw [e]; exact h

/-! ### what may be subscripted -/
/-- what stands as an index of a plain subscript -/
def PlainIx (b : Expr) : Prop := ∀ o i, subscripted b false o i = operate [o, i] (getItem o i)
/-- a subscript by values -/
def IxR (X : Cx) (r : R2) : Prop :=
  ∀ (value slice : Expr) (pins : List (Addr × Obj)) (s : Shared) (σ : St) (H : Hp) (x y : V) (v u : Value) (Q : VK), Inv X pins σ H s → RelV x v → RelV y u → r x y H Q →
    subscripted slice false v u = operate [v, u] (getItem v u) → wpAny (model X.prog X.w) X.A (subscriptTail value slice v u) (EP X pins σ Q) X.xe s
/-- a call of a builtin's method by values: the receiver, the arguments -/
def MtR (X : Cx) (id : String) (r : V → List V → Hp → VK → Prop) : Prop :=
  ∀ (pins : List (Addr × Obj)) (s : Shared) (σ : St) (H : Hp) (x : V) (xs : List V) (v : Value) (us : List Value) (Q : VK), Inv X pins σ H s → RelV x v → Vals xs us → r x xs H Q →
    wpAny (model X.prog X.w) X.A (call (.builtin id) (v :: us)) (EP X pins σ Q) X.xe s
section
variable {X : Cx} {a b : Expr} {ta tb : TE} {pos : Pos}
/-- a[b] -/
theorem pe_ix {r : R2} (hr : IxR X r) (ha : PE X a ta) (hb : PE X b tb) (hs : PlainIx b) : PE X (.Subscript a b pos) (tOp r ta tb) := by
  intro pins s σ H Q I h
  exact Subscript_ (binT ha hb I h fun v u s2 x y H2 I2 rx ry q => hr a b pins s2 σ H2 x y v u Q I2 rx ry q (hs _ _))

def rIxL (K : PySem.W.Frag) : R2 := fun x y H Q => ∃ p xs i v, x = .ref p ∧ y = .int i ∧ SqL K H p xs ∧ atI xs i = some v ∧ Q v H
def rIxT (K : PySem.W.Frag) : R2 := fun x y H Q => ∃ p xs i v, x = .ref p ∧ y = .int i ∧ SqT K H p xs ∧ atI xs i = some v ∧ Q v H
theorem ix_list : IxR X (rIxL X.K) := by
  intro value slice pins s σ H x y v u Q I rx ry h hs
  obtain ⟨p, xs, i, z, rfl, rfl, hq, he, q⟩ := h
  cases rx
  obtain ⟨t, rfl⟩ := ry
  obtain ⟨its, r, pl, hz⟩ := I.list hq
  obtain ⟨j, h1, h2, h3, h4, h5⟩ := atI_get he
  obtain ⟨w, ew, rw'⟩ := r.get h2
  have hl := r.length
  have hn := line63
  have fin : EP X pins σ Q w s := ⟨z, H, I, rw', q⟩
  by_cases h0 : 0 ≤ i
  · have hj : i.toNat = j := by
      rw [seqIndex_of h0 h5] at h1
      exact Option.some.inj h1
    exact item_listR pl.isList h0 (by omega) (by rw [hj]; simpa using ew) fin hs
  · have hj : (i + (its.toArray.size : Int)).toNat = j := by
      rw [seqIndex_neg (by omega) h4] at h1
      rw [List.size_toArray, ← hl]
      exact Option.some.inj h1
    exact subscriptTail_builtinR (x := w) pl.isList.typeIs slot_list_getitem.lookup
      (wpAny_getItem_list_neg (Q := fun r s' => r = w ∧ EP X pins σ Q r s') pl.isList (by omega) (by rw [List.size_toArray] <;> omega) (by omega) (by rw [hj]; simpa using ew) ⟨rfl, fin⟩) hs
theorem ix_tup : IxR X (rIxT X.K) := by
  intro value slice pins s σ H x y v u Q I rx ry h hs
  obtain ⟨p, xs, i, z, rfl, rfl, hq, he, q⟩ := h
  cases rx
  obtain ⟨t, rfl⟩ := ry
  obtain ⟨its, r, pl, hz⟩ := I.tuple hq
  obtain ⟨j, h1, h2, h3, h4, h5⟩ := atI_get he
  obtain ⟨w, ew, rw'⟩ := r.get h2
  have hl := r.length
  have hn := line63
  have fin : EP X pins σ Q w s := ⟨z, H, I, rw', q⟩
  exact subscriptTail_builtinR (x := w) pl.typeIs slot_tuple_getitem.lookup
    (getItem_tuple (j := j) (Q := fun r s' => r = w ∧ EP X pins σ Q r s') pl (by omega) (by omega) (by rw [List.size_toArray, ← hl]; exact h1) (by simpa using ew) ⟨rfl, fin⟩) hs

/-! ### xs[i] = v, any sign -/
/-- the list's object behind a store -/
theorem mapSeq_set (its : List Value) (n j : Nat) (u : Value) : Obj.mapSeq (·.setIfInBounds j u) { cls := .type "list", data := .seq its.toArray n } = { cls := .type "list", data := .seq (its.set j u).toArray n } := by
  simp [Obj.mapSeq]
theorem Inv.lst {pins : List (Addr × Obj)} {σ : St} {H : Hp} {s : Shared} {p : Addr} {xs : List V} (I : Inv X pins σ H s) (h : H p = some (.lst xs)) :
    ∃ (its : List Value) (n : Nat), Vals xs its ∧ s.heap.get? p = some { cls := .type "list", data := .seq its.toArray n } ∧ xs.length ≤ sizeLine := by
  obtain ⟨z, its, n, r, e⟩ := I.hok p _ h
  exact ⟨its, n, r, e, z⟩
/-- the list at p is written by an update of its object -/
theorem Inv.lstUpd {pins : List (Addr × Obj)} {σ : St} {H : Hp} {s : Shared} {p : Addr} {xs ys : List V} {its its' : List Value} {n n' : Nat} {f : Obj → Obj} (I : Inv X pins σ H s) (h : H p = some (.lst xs))
    (ho : s.heap.get? p = some { cls := .type "list", data := .seq its.toArray n }) (hf : f { cls := .type "list", data := .seq its.toArray n } = { cls := .type "list", data := .seq its'.toArray n' }) (r : Vals ys its') (hz : ys.length ≤ sizeLine) (t : Nat) :
    Inv X pins σ (upd H p (.lst ys)) { s with heap := s.heap.update p f, toks := t } := by
  have e : (s.heap.update p f).get? p = some { cls := .type "list", data := .seq its'.toArray n' } := by
    rw [Heap.get?_update_self f ho (by rw [hf] <;> rfl), hf]
  refine I.write (x := p) (e := p) (by rw [h]; trivial) (.inl rfl) (fun b u hb q => (Heap.get?_update_other _ _ (Ne.symm hb)).trans q) ⟨_, e⟩ ?_
  exact ⟨hz, its', n', r, e⟩
def rSetL : V → V → V → Hp → (Hp → Prop) → Prop := fun o i v H Q => ∃ p xs k j, o = .ref p ∧ i = .int k ∧ H p = some (.lst xs) ∧ ixN xs.length k = some j ∧ Q (upd H p (.lst (xs.set j v)))
theorem set_list : PSet X rSetL := by
  intro pins s σ H o i v ov iv u Q I ro ri rv h
  obtain ⟨p, xs, k, j, rfl, rfl, hp, hj, q⟩ := h
  cases ro
  obtain ⟨t, rfl⟩ := ri
  obtain ⟨its, n, r, ho, hz⟩ := I.lst hp
  obtain ⟨h1, h2, h3, h4⟩ := ixN_seq hj
  have hl := r.length
  have hn := line63
  have I' : Inv X pins σ (upd H p (.lst (xs.set j v))) { s with heap := s.heap.update p (Obj.mapSeq (·.setIfInBounds j u)) } :=
    I.lstUpd hp ho (mapSeq_set its n j u) (r.set rv j) (by rw [List.length_set]; exact hz) s.toks
  by_cases h0 : 0 ≤ k
  · have hk : k.toNat = j := by
      rw [seqIndex_of h0 h4] at h1
      exact Option.some.inj h1
    exact PySem.W.ki_setAt ho h0 (by omega) (by rw [List.size_toArray, ← hl]; exact h4) (by rw [hk]; exact ⟨_, I', q⟩)
  · have hk : (k + (its.toArray.size : Int)).toNat = j := by
      rw [seqIndex_neg (by omega) h3] at h1
      rw [List.size_toArray, ← hl]
      exact Option.some.inj h1
    exact PySem.W.ki_setBack ho (by omega) (by rw [List.size_toArray, ← hl]; exact h3) (by omega) (by rw [hk]; exact ⟨_, I', q⟩)

/-! ### slices -/
theorem slice_bounds (lo hi : Option Int) (n : Nat) : (sliceBounds lo hi none n).1 = ((HT.sIx n 0 lo : Nat) : Int) ∧ (sliceBounds lo hi none n).2.1 = ((HT.sIx n n hi : Nat) : Int) ∧ (sliceBounds lo hi none n).2.2 = 1 := by
  refine ⟨?_, ?_, rfl⟩
  · cases lo with
    | none => simp [sliceBounds, HT.sIx]
    | some i =>
      simp only [sliceBounds, HT.sIx, Option.getD_none, show (1 : Int) > 0 by decide, if_true]
      by_cases h : i < 0
      · simp only [h, if_true] <;> omega
      · simp only [h, if_false] <;> omega
  · cases hi with
    | none => simp [sliceBounds, HT.sIx]
    | some i =>
      simp only [sliceBounds, HT.sIx, Option.getD_none, show (1 : Int) > 0 by decide, if_true]
      by_cases h : i < 0
      · simp only [h, if_true] <;> omega
      · simp only [h, if_false] <;> omega
theorem slicePick_cut (its : List Value) (lo hi : Option Int) : slicePick its.toArray lo hi none = ((its.drop (HT.sIx its.length 0 lo)).take (HT.sIx its.length its.length hi - HT.sIx its.length 0 lo)).toArray := by
  obtain ⟨h1, h2, h3⟩ := slice_bounds lo hi its.toArray.size
  unfold slicePick
  rw [h1, h2, h3]
  simp only [sliceRange_one, pick_run, List.size_toArray] <;> rfl
/-- xs[lo:hi] of a list: a new list -/
def rSlL (K : PySem.W.Frag) : V → Option Int → Option Int → Hp → VK → Prop := fun x lo hi H Q => ∃ a xs, x = .ref a ∧ SqL K H a xs ∧ ∀ p, H p = none → Q (.ref p) (upd H p (.lst (cutV xs lo hi)))
theorem sl_list : SlR X (rSlL X.K) := by
  intro pins s σ H x v vl vu lo hi sl Q I rx hs pl pu h
  obtain ⟨a, xs, rfl, hx, q⟩ := h
  cases rx
  obtain ⟨its, r, ht, hz⟩ := I.list hx
  have hlen := r.length
  refine ⟨"list", _, slot_list_getitem.lookup, ht.isList.typeIs, ?_⟩
  refine wpAny_getItem_list_slice ht.isList hs pl pu .none (by simp) ?_ (by rw [List.size_toArray] <;> omega)
  rw [slicePick_cut, ← hlen]
  refine ⟨.ref s.heap.objs.size, _, I.laid (t' := s.toks) (o := .lst (cutV xs lo hi)) (fun b ob q => Heap.get?_push_of_some _ q) (Nat.le_refl _) ?_, rfl, q _ (I.hok.fresh (Nat.le_refl _))⟩
  exact ⟨Nat.le_trans (cutV_length xs lo hi) hz, _, 0, (r.drop (HT.sIx xs.length 0 lo)).take (HT.sIx xs.length xs.length hi - HT.sIx xs.length 0 lo), Heap.get?_push_size _ rfl⟩

/-! ### in, not in: flat items -/
def flatV : V → Bool
  | .non => true
  | .bl _ => true
  | .int _ => true
  | .str _ => true
  | _ => false
/-- == of flat values -/
def eqV : V → V → Bool
  | .non, .non => true
  | .bl a, .bl b => a == b
  | .bl a, .int b => (if a then 1 else 0) == b
  | .int a, .bl b => a == (if b then 1 else 0)
  | .int a, .int b => a == b
  | .str a, .str b => a == b
  | _, _ => false
theorem eqAt_V {A : Around} {s : Shared} {y x : V} {u v : Value} (ry : RelV y u) (rx : RelV x v) (fy : flatV y = true) (fx : flatV x = true) : SeqAt.EqAt A s u v (eqV y x) := by
  cases y with
  | non =>
    cases ry
    cases x with
    | non => cases rx; exact SeqAt.EqAt.same _
    | bl b => cases rx; exact SeqAt.EqAt.none_bool b
    | int b => obtain ⟨t, rfl⟩ := rx; exact SeqAt.EqAt.none_int b t
    | str b => obtain ⟨t, rfl⟩ := rx; exact SeqAt.EqAt.none_str b t
    | _ => exact absurd (show false = true from fx) Bool.false_ne_true
  | bl a =>
    cases ry
    cases x with
    | non => cases rx; exact SeqAt.EqAt.bool_none a
    | bl b => cases rx; exact SeqAt.EqAt.bool_bool a b
    | int b => obtain ⟨t, rfl⟩ := rx; exact SeqAt.EqAt.bool_int a b t
    | str b => obtain ⟨t, rfl⟩ := rx; exact SeqAt.EqAt.bool_str a b t
    | _ => exact absurd (show false = true from fx) Bool.false_ne_true
  | int a =>
    obtain ⟨t', rfl⟩ := ry
    cases x with
    | non => cases rx; exact SeqAt.EqAt.int_none a t'
    | bl b => cases rx; exact SeqAt.EqAt.int_bool a t' b
    | int b => obtain ⟨t, rfl⟩ := rx; exact SeqAt.EqAt.int_int a t' b t
    | str b => obtain ⟨t, rfl⟩ := rx; exact SeqAt.EqAt.int_str a t' b t
    | _ => exact absurd (show false = true from fx) Bool.false_ne_true
  | str a =>
    obtain ⟨t', rfl⟩ := ry
    cases x with
    | non => cases rx; exact SeqAt.EqAt.str_none a t'
    | bl b => cases rx; exact SeqAt.EqAt.str_bool a t' b
    | int b => obtain ⟨t, rfl⟩ := rx; exact SeqAt.EqAt.str_int a t' b t
    | str b => obtain ⟨t, rfl⟩ := rx; exact SeqAt.EqAt.str_str a t' b t
    | _ => exact absurd (show false = true from fx) Bool.false_ne_true
  | _ => exact absurd (show false = true from fy) Bool.false_ne_true
/-- the items' answers, read off the values (a value's own answer does not lean on its token) -/
def eqU (x : V) (u : Value) : Bool := match u with
  | .none => eqV .non x
  | .bool b => eqV (.bl b) x
  | .int i _ => eqV (.int i) x
  | .str z _ => eqV (.str z) x
  | _ => false
theorem eqU_of {x y : V} {u : Value} (r : RelV y u) (f : flatV y = true) : eqU x u = eqV y x := by
  cases y with
  | non => cases r; rfl
  | bl b => cases r; rfl
  | int i => obtain ⟨t, rfl⟩ := r; rfl
  | str z => obtain ⟨t, rfl⟩ := r; rfl
  | _ => exact absurd (show false = true from f) Bool.false_ne_true
theorem any_eqU {x : V} : ∀ {xs : List V} {us : List Value}, Vals xs us → xs.all flatV = true → us.any (eqU x) = xs.any fun y => eqV y x
  | _, _, .nil, _ => rfl
  | y :: xs, u :: us, .cons r t, f => by
    rw [List.all_cons, Bool.and_eq_true] at f
    rw [List.any_cons, List.any_cons, eqU_of r f.1, any_eqU t f.2]
theorem mem_eqAt {A : Around} {s : Shared} {x : V} {v : Value} (rx : RelV x v) (fx : flatV x = true) : ∀ {xs : List V} {us : List Value}, Vals xs us → xs.all flatV = true → ∀ u ∈ us, SeqAt.EqAt A s u v (eqU x u)
  | _, _, .nil, _ => fun u hu => by cases hu
  | y :: xs, u :: us, .cons r t, f => fun u' hu => by
    rw [List.all_cons, Bool.and_eq_true] at f
    rcases List.mem_cons.mp hu with rfl | hu
    · rw [eqU_of r f.1]; exact eqAt_V r rx f.1 fx
    · exact mem_eqAt rx fx t f.2 u' hu
def inV (x : V) (xs : List V) : Bool := xs.any fun y => eqV y x
/-- x in a list or tuple of flat items -/
def rIn (K : PySem.W.Frag) (neg : Bool) : R2 := fun x y H Q => ∃ p xs, y = .ref p ∧ (SqL K H p xs ∨ SqT K H p xs) ∧ flatV x = true ∧ xs.all flatV = true ∧ Q (.bl (if neg then !inV x xs else inV x xs)) H
theorem op_in_seq : OpR X (compareOp .In) (rIn X.K false) := by
  intro pins s σ H x y v u Q I rx ry h
  obtain ⟨p, xs, rfl, hq, fx, fs, q⟩ := h
  cases ry
  rcases hq with hq | hq
  · obtain ⟨its, r, pl, hz⟩ := I.list hq
    refine SeqAt.in_listAt (eqU x) pl.isList (fun w hw => mem_eqAt rx fx r fs w (by simpa using hw)) ⟨.bl _, H, I, rfl, ?_⟩
    rw [show its.toArray.any (eqU x) = its.any (eqU x) by simp, any_eqU r fs]
    exact q
  · obtain ⟨its, r, pl, hz⟩ := I.tuple hq
    refine SeqAt.in_tupleAt (eqU x) pl (fun w hw => mem_eqAt rx fx r fs w (by simpa using hw)) ⟨.bl _, H, I, rfl, ?_⟩
    rw [show its.toArray.any (eqU x) = its.any (eqU x) by simp, any_eqU r fs]
    exact q
theorem op_notIn_seq : OpR X (compareOp .NotIn) (rIn X.K true) := by
  intro pins s σ H x y v u Q I rx ry h
  obtain ⟨p, xs, rfl, hq, fx, fs, q⟩ := h
  cases ry
  rcases hq with hq | hq
  · obtain ⟨its, r, pl, hz⟩ := I.list hq
    refine SeqAt.notIn_listAt (eqU x) pl.isList (fun w hw => mem_eqAt rx fx r fs w (by simpa using hw)) ⟨.bl _, H, I, rfl, ?_⟩
    rw [show its.toArray.any (eqU x) = its.any (eqU x) by simp, any_eqU r fs]
    exact q
  · obtain ⟨its, r, pl, hz⟩ := I.tuple hq
    refine SeqAt.notIn_tupleAt (eqU x) pl (fun w hw => mem_eqAt rx fx r fs w (by simpa using hw)) ⟨.bl _, H, I, rfl, ?_⟩
    rw [show its.toArray.any (eqU x) = its.any (eqU x) by simp, any_eqU r fs]
    exact q

/-! ### len, list(x), tuple(x) of any list or tuple that is read -/
theorem call_len_seq : CallR X (.builtin "len") (fun xs H Q => ∃ p ys, xs = [.ref p] ∧ (SqL X.K H p ys ∨ SqT X.K H p ys) ∧ Q (.int ys.length) H) := by
  intro pins s σ H xs us Q I r h
  obtain ⟨p, ys, rfl, hq, q⟩ := h
  obtain ⟨u, rfl, rx⟩ := vals1 r
  cases rx
  have hn := line63
  rcases hq with hq | hq
  · obtain ⟨its, r', pl, hz⟩ := I.list hq
    have hlen := r'.length
    exact Calls.call_len_list pl.isList (by simp only [List.size_toArray] <;> omega) ⟨.int ys.length, H, I.tok _, ⟨s.toks + 1, by rw [List.size_toArray, hlen]⟩, q⟩
  · obtain ⟨its, r', pl, hz⟩ := I.tuple hq
    have hlen := r'.length
    exact len_tuple pl (by simp only [List.size_toArray] <;> omega) ⟨.int ys.length, H, I.tok _, ⟨s.toks + 1, by rw [List.size_toArray, hlen]⟩, q⟩

/-! ### the call of a builtin's method: o.m(..) -/
/-- the value is of that builtin type -/
def tyV (K : PySem.W.Frag) (T : String) (x : V) (H : Hp) : Prop := match x with
  | .str _ => T = "str"
  | .int _ => T = "int"
  | .ref p => (T = "list" ∧ ∃ xs, SqL K H p xs) ∨ (T = "tuple" ∧ ∃ o, K.lookup p = some o ∧ o.cls = .type "tuple" ∧ o.dict = none) ∨
      (T = "dict" ∧ ((∃ kvs, H p = some (.dK kvs)) ∨ ∃ kvs, H p = some (.dT kvs))) ∨ (T = "set" ∧ ∃ S n, H p = some (.set S n))
  | _ => False
theorem tyV_is {pins : List (Addr × Obj)} {σ : St} {H : Hp} {s : Shared} {T : String} {x : V} {v : Value} (I : Inv X pins σ H s) (r : RelV x v) (ty : tyV X.K T x H) :
    s.TypeIs v T ∧ ∀ a, v = .ref a → ∃ ob, s.heap.get? a = some ob ∧ ob.dict = none := by
  cases x with
  | str z =>
    obtain ⟨t, rfl⟩ := r
    cases (show T = "str" from ty)
    exact ⟨typeIs_str s z t, fun _ e => nomatch e⟩
  | int i =>
    obtain ⟨t, rfl⟩ := r
    cases (show T = "int" from ty)
    exact ⟨typeIs_int s i t, fun _ e => nomatch e⟩
  | ref p =>
    cases r
    rcases ty with ⟨rfl, xs, hq⟩ | ⟨rfl, o, hk, hc, hd⟩ | ⟨rfl, hk⟩ | ⟨rfl, S, n, hk⟩
    · obtain ⟨its, _, pl, _⟩ := I.list hq
      refine ⟨pl.isList.typeIs, fun a e => ?_⟩
      cases e
      obtain ⟨o, n, e, c, hd, _⟩ := pl
      exact ⟨o, e, hd⟩
    · refine ⟨⟨o, I.kIn p o hk, hc⟩, fun a e => ?_⟩
      cases e
      exact ⟨o, I.kIn _ o hk, hd⟩
    · have z : ∃ o, s.heap.get? p = some o ∧ o.ExactDict := by
        rcases hk with ⟨kvs, hk⟩ | ⟨kvs, hk⟩
        · obtain ⟨_, _, _, _, o, _, _, e, ex, _⟩ := I.hok p _ hk
          exact ⟨o, e, ex⟩
        · obtain ⟨_, _, _, _, o, _, _, e, ex, _⟩ := I.hok p _ hk
          exact ⟨o, e, ex⟩
      obtain ⟨o, e, ex⟩ := z
      refine ⟨⟨o, e, ex.1⟩, fun a e2 => ?_⟩
      cases e2
      exact ⟨o, e, ex.2.1⟩
    · obtain ⟨o, _, _, _, e, ex, _⟩ := I.hok p _ hk
      refine ⟨⟨o, e, ex.1⟩, fun a e2 => ?_⟩
      cases e2
      exact ⟨o, e, ex.2.1⟩
  | _ => exact False.elim ty
def tBM (K : PySem.W.Frag) (T : String) (r : V → List V → Hp → VK → Prop) (to : TE) (t : TA) : TE := fun σ H Q => to σ H fun x H1 => tyV K T x H1 ∧ t σ H1 fun xs H2 => r x xs H2 Q
variable {o e : Expr} {es : List Expr} {to : TE} {t : TA} {name : Str} {apos cpos : Pos} {T id : String} {r : V → List V → Hp → VK → Prop}
theorem pe_bm (pa : PlainAttrs T) (slot : Slot T name id) (hty : typeOf (.builtin id) = pure (.type "method_descriptor")) (hm : MtR X id r) (ho : PE X o to) (ha : PA X (e :: es) t)
    (hbase : attributeBase o name X.env (eval o X.env) = eval o X.env := by rfl)
    (hfew : ((backTo cpos (starEach (e :: es) X.env)).all (fun x => !x.1) && (backToKw cpos (keywordEach [] X.env)).all (fun x => x.1.isSome)
      && decide ((e :: es).length + ([] : List Keyword).length + (if ([] : List Keyword).isEmpty then 0 else 1) < 30)) = true := by rfl)
    (hline : (apos.endLine == cpos.line) = true := by rfl) (hs : starEach (e :: es) X.env = (false, eval e X.env) :: starEach es X.env := by rfl) (hplain : (backTo cpos (starEach es X.env)).any (·.1) = false := by rfl) :
    PE X (.Call (.Attribute o name apos) (e :: es) [] cpos) (tBM X.K T r to t) := by
  intro pins s σ H Q I h
  refine wpAny_Call_method_late hbase hfew hline rfl (thn (ho pins s σ H _ I h) fun v s1 ⟨x, H1, I1, r1, ty, q1⟩ => ?_)
  obtain ⟨h1, h2⟩ := tyV_is I1 r1 ty
  refine ⟨T, id, pa, slot, hty, h1, h2, ?_⟩
  have hA := ha cpos pins s1 σ H1 _ I1 q1
  rw [hs] at hA ⊢
  refine Calls.callWith_builtin (by show (false || (backTo cpos (starEach es X.env)).any (·.1)) = false; rw [hplain] <;> rfl) (Calls.evalArgs_plain ?_)
  exact thn hA fun us s2 ⟨vs, H2, I2, r2, q2⟩ => hm pins s2 σ H2 x vs v us Q I2 r1 r2 q2
/- xs.append(e), list.index on a module's tuple .. are MtR facts of 06m -/
end
end L2

namespace L2
open PySem PySem.Spec PyProof.Rows

def MtM (X : Cx) (id : String) (r : V → List V → Hp → VK → Prop) : Prop :=
  ∀ (pins : List (Addr × Obj)) (s : Shared) (σ : St) (H : Hp) (x : V) (xs : List V) (v : Value) (us : List Value) (Q : VK), Inv X pins σ H s → RelV x v → Vals xs us → r x xs H Q →
    wpAny (model X.prog X.w) X.A (call (.builtin id) (v :: us)) (EP X pins σ Q) X.xe s

/-! ### lists of values -/
theorem Vals.one : ∀ {x : V} {us : List Value}, Vals [x] us → ∃ u, us = [u] ∧ RelV x u
  | _, _, .cons r .nil => ⟨_, rfl, r⟩
theorem Vals.zero : ∀ {us : List Value}, Vals [] us → us = []
  | _, .nil => rfl
theorem Vals.rep {xs : List V} {us : List Value} (h : Vals xs us) : ∀ k : Nat, Vals (List.replicate k xs).flatten (List.replicate k us).flatten
  | 0 => .nil
  | k + 1 => by
    rw [List.replicate_succ, List.replicate_succ, List.flatten_cons, List.flatten_cons]
    exact Vals.append h (Vals.rep h k)
theorem foldl_rep (its : List Value) : ∀ (k : Nat) (acc : List Value),
    List.foldl (fun x1 x2 => x1 ++ x2) acc.toArray (List.replicate k its.toArray) = (acc ++ (List.replicate k its).flatten).toArray
  | 0, acc => by simp
  | k + 1, acc => by
    have e : acc.toArray ++ its.toArray = (acc ++ its).toArray := by simp
    have e2 : (acc ++ its) ++ (List.replicate k its).flatten = acc ++ (List.replicate (k + 1) its).flatten := by
      rw [List.replicate_succ, List.flatten_cons, List.append_assoc]
    rw [← e2, ← foldl_rep its k (acc ++ its), ← e, List.replicate_succ, List.foldl_cons]

section
variable {X : Cx} {pins : List (Addr × Obj)} {σ : St} {H : Hp} {s : Shared} {l b : Addr} {xs ys zs : List V}

/-! ### the two steps: a tracked list is rewritten, a new list is laid -/
theorem Inv.lset {its its' : List Value} {n : Nat} {f : Array Value → Array Value} {t' : Nat} (I : Inv X pins σ H s) (hH : H l = some (.lst xs))
    (e : s.heap.get? l = some { cls := .type "list", data := .seq its.toArray n }) (hf : f its.toArray = its'.toArray) (hv : Vals ys its') (hz : ys.length ≤ sizeLine) :
    Inv X pins σ (upd H l (.lst ys)) { s with heap := s.heap.update l (Obj.mapSeq f), toks := t' } := by
  have q := PySem.IsL.update e f
  rw [hf] at q
  refine I.write (x := l) (e := l) (by rw [hH]; exact trivial) (.inl rfl) (fun b' u hb hu => (Heap.get?_update_other s.heap (Obj.mapSeq f) (Ne.symm hb)).trans hu) ⟨_, q⟩ ?_
  exact ⟨hz, its', _, hv, q⟩
theorem Inv.lnew {its : List Value} {t' : Nat} (I : Inv X pins σ H s) (hv : Vals ys its) (hz : ys.length ≤ sizeLine) :
    Inv X pins σ (upd H s.heap.objs.size (.lst ys)) { s with heap := s.heap.push { cls := .type "list", data := .seq its.toArray }, toks := t' } :=
  I.laid (fun _ _ q => Heap.get?_push_of_some _ q) (Nat.le_refl _) ⟨hz, its, 0, hv, Heap.get?_push_size _ rfl⟩
theorem Inv.fresh (I : Inv X pins σ H s) : H s.heap.objs.size = none := I.hok.fresh (Nat.le_refl _)
theorem Inv.lstM (I : Inv X pins σ H s) (hH : H l = some (.lst xs)) : xs.length ≤ sizeLine ∧ ∃ (its : List Value) (n : Nat), Vals xs its ∧ xs.length = its.length ∧ s.heap.get? l = some { cls := .type "list", data := .seq its.toArray n } := by
  obtain ⟨z, its, n, r, e⟩ := I.hok l _ hH
  exact ⟨z, its, n, r, r.length, e⟩

theorem notLongL {n : Nat} (h : n ≤ sizeLine) : Builtin.List.listTooLong n = false := by
  unfold Builtin.List.listTooLong
  exact decide_eq_false (by omega)
end

section
variable {X : Cx}

/-! ### methods -/
def rAppend : V → List V → Hp → VK → Prop := fun x vs H Q => ∃ l xs y, x = .ref l ∧ vs = [y] ∧ H l = some (.lst xs) ∧ xs.length < sizeLine ∧ Q .non (upd H l (.lst (xs ++ [y])))
theorem mt_append : MtM X "list.append" rAppend := by
  intro pins s σ H x vs v us Q I rx rv h
  obtain ⟨l, xs, y, rfl, rfl, hH, hz, q⟩ := h
  cases rx
  obtain ⟨u, rfl, ru⟩ := rv.one
  obtain ⟨z, its, n, r, hl, e⟩ := I.lstM hH
  refine call_meets F.slot_list_append ⟨_, e, rfl⟩ F.entry_list_append (F.args_list_append_2 _ _) (PySem.list_append l its.toArray n u (by rw [List.size_toArray]; omega)) ⟨e, ?_⟩
  refine ⟨.non, _, I.lset (its' := its ++ [u]) hH e (by simp) (r.append (.cons ru .nil)) ?_, rfl, q⟩
  rw [List.length_append, List.length_singleton]
  omega






/-! ### list + list, list += list, list * int -/
def rCat : R2 := fun x y H Q => ∃ l b xs zs, x = .ref l ∧ y = .ref b ∧ H l = some (.lst xs) ∧ H b = some (.lst zs) ∧ xs.length + zs.length ≤ sizeLine ∧ ∀ p, H p = none → Q (.ref p) (upd H p (.lst (xs ++ zs)))
theorem op_cat : OpR X (binaryOp .Add) rCat := by
  intro pins s σ H x y v u Q I rx ry h
  obtain ⟨l, b, xs, zs, rfl, rfl, hH, hB, hz, q⟩ := h
  cases rx
  cases ry
  obtain ⟨z, its, n, r, hl, e⟩ := I.lstM hH
  obtain ⟨z2, its2, n2, r2, hl2, e2⟩ := I.lstM hB
  refine PySem.P.add_list e e2 ?_ (by rw [List.size_toArray, List.size_toArray]; omega)
  have ea : its.toArray ++ its2.toArray = (its ++ its2).toArray := by simp
  rw [ea]
  exact ⟨.ref _, _, I.lnew (t' := s.toks) (r.append r2) (by rw [List.length_append]; omega), rfl, q _ I.fresh⟩
/-- a list times an int (a negative one is nothing) -/
def rRep : R2 := fun x y H Q => ∃ l k xs, x = .ref l ∧ y = .int k ∧ H l = some (.lst xs) ∧ -(2 ^ 63) ≤ k ∧ k < 2 ^ 63 ∧ xs.length * k.toNat ≤ sizeLine ∧
  ∀ p, H p = none → Q (.ref p) (upd H p (.lst (List.replicate k.toNat xs).flatten))
theorem len_rep {α : Type} (xs : List α) (k : Nat) : (List.replicate k xs).flatten.length = k * xs.length := by
  induction k with
  | zero => simp
  | succ k ih => rw [List.replicate_succ, List.flatten_cons, List.length_append, ih, Nat.succ_mul, Nat.add_comm]
theorem op_rep : OpR X (binaryOp .Mult) rRep := by
  intro pins s σ H x y v u Q I rx ry h
  obtain ⟨l, k, xs, rfl, rfl, hH, h1, h2, hz, q⟩ := h
  cases rx
  obtain ⟨t, rfl⟩ := ry
  obtain ⟨z, its, n, r, hl, e⟩ := I.lstM hH
  have hlen : its.toArray.size * k.toNat ≤ sizeLine := by rw [List.size_toArray, ← hl]; exact hz
  have hcap : ¬ its.toArray.size * k.toNat > (2 ^ 63 - 1) / 8 := by
    have : (sizeLine : Nat) ≤ (2 ^ 63 - 1) / 8 := by decide
    omega
  have hfit : ¬ (!Builtin.List.listFitsIndex k) = true := by
    rw [fitsIndex_both h1 h2]
    exact Bool.false_ne_true
  have hlong : ¬ Builtin.List.listTooLong (its.toArray.size * k.toNat) = true := by
    rw [notLongL hlen]
    exact Bool.false_ne_true
  have hnew : List.foldl (fun x1 x2 => x1 ++ x2) #[] (List.replicate (if its.toArray.isEmpty = true then 0 else k.toNat) its.toArray) = (List.replicate k.toNat its).flatten.toArray := by
    have f0 : ∀ m : Nat, List.foldl (fun x1 x2 => x1 ++ x2) #[] (List.replicate m its.toArray) = (List.replicate m its).flatten.toArray := fun m => by
      have := foldl_rep its m []
      rw [List.nil_append] at this
      exact this
    rw [f0]
    cases its with
    | nil => simp
    | cons a r' => rw [if_neg (by simp)]
  refine wpAny_binaryOp_repeat_ref (T := "list") (U := "int") (by decide) ⟨_, e, rfl⟩ (fun s' => typeIs_int s' k t) noFill_list_mul F.fills_int_mul F.slot_int_rmul repeat_list F.slot_int_index.lookup
    (call_meets F.slot_int_rmul (typeIs_int s k t) F.entry_int_rmul (F.args_int_rmul_2 _ _) (int___rmul___int_list k t l its.toArray n)
      ⟨e, rfl, ⟨_, e, rfl⟩, call_meets F.slot_list_mul ⟨_, e, rfl⟩ F.entry_list_mul (F.args_list_mul_2 _ _) (AutoListH.list___mul___list_int_3 l its.toArray n k t hfit hcap hlong) ⟨e, ?_⟩⟩)
  rw [hnew]
  exact ⟨.ref _, _, I.lnew (t' := s.toks) (r.rep k.toNat) (by rw [len_rep, Nat.mul_comm]; exact hz), rfl, q _ I.fresh⟩

/-! ### del xs[i] -/
end

/-! ### xs[a:b] = ys -/
section
variable {prog : Program} {w : World} {A : Around} {E : Value → Shared → Prop} {s : Shared}
set_option maxRecDepth 100000 in
end

section
variable {X : Cx}
end
end L2

namespace L2
open PySem PySem.Spec PyProof.Rows


/-! ### the library's walks over a list of ints, kept objects alone -/
section
variable {prog : Program} {w : World} {A : Around} {E : Value → Shared → Prop} {s : Shared} {l : Addr} {its : List Value} {ns : List Int} {Q : Value → Shared → Prop}
end

/-! ### the calls, by values (CallR of 03t; MtR of 06l) -/
section
variable {X : Cx}

/-! sorted, sort (fewer than 64 items: the library's own bound) -/
end

/-! ### list.index, flat items -/
section
variable {X : Cx}
end

/-! ### type(x) of an own instance; is, is not of a module's class -/
section
variable {X : Cx}
end

/-! ### any(xs), all(xs) of a list of bools -/
section
variable {X : Cx}
end

/-! ### == and != of data at any depth: none, bools, ints, texts, lists, tuples -/
mutual
inductive Dp (K : PySem.W.Frag) (H : Hp) : V → PyData → Prop
  | non : Dp K H .non .none
  | bl (b : Bool) : Dp K H (.bl b) (.bool b)
  | int (i : Int) : Dp K H (.int i) (.int i)
  | str (x : Str) : Dp K H (.str x) (.str x)
  | lst {a : Addr} {xs : List V} {ds : List PyData} : SqL K H a xs → DpAll K H xs ds → Dp K H (.ref a) (.list ds)
  | tup {a : Addr} {xs : List V} {ds : List PyData} : SqT K H a xs → DpAll K H xs ds → Dp K H (.ref a) (.tuple ds)
inductive DpAll (K : PySem.W.Frag) (H : Hp) : List V → List PyData → Prop
  | nil : DpAll K H [] []
  | cons {v : V} {vs : List V} {d : PyData} {ds : List PyData} : Dp K H v d → DpAll K H vs ds → DpAll K H (v :: vs) (d :: ds)
end
section
variable {X : Cx} {pins : List (Addr × Obj)} {σ : St} {H : Hp} {s : Shared}
mutual
theorem Dp.reads (I : Inv X pins σ H s) : ∀ (d : PyData) (v : V) (u : Value), Dp X.K H v d → RelV v u → ∃ as, Reads s.heap u d as
  | .none, _, _, h, r => by
    cases h
    cases r
    exact ⟨_, Reads.none⟩
  | .bool b, _, _, h, r => by
    cases h
    cases r
    exact ⟨_, Reads.bool b⟩
  | .int i, _, _, h, r => by
    cases h
    obtain ⟨t, rfl⟩ := r
    exact ⟨_, Reads.int i t⟩
  | .str x, _, _, h, r => by
    cases h
    obtain ⟨t, rfl⟩ := r
    exact ⟨_, Reads.str x t⟩
  | .list ds, _, _, h, r => by
    cases h with
    | lst hs ha =>
      cases r
      obtain ⟨its, rv, ⟨o, n, ho, hc, _, hd⟩, _⟩ := I.list hs
      obtain ⟨as, hr⟩ := Dp.readsAll I ds _ its ha rv
      exact ⟨_, Reads.list ho hc hd hr⟩
  | .tuple ds, _, _, h, r => by
    cases h with
    | tup hs ha =>
      cases r
      obtain ⟨its, rv, ⟨o, ho, hc, n, hd⟩, _⟩ := I.tuple hs
      obtain ⟨as, hr⟩ := Dp.readsAll I ds _ its ha rv
      exact ⟨_, Reads.tuple ho hc hd hr⟩
  | .dict _, _, _, h, _ => by cases h
theorem Dp.readsAll (I : Inv X pins σ H s) : ∀ (ds : List PyData) (vs : List V) (us : List Value), DpAll X.K H vs ds → Vals vs us → ∃ as, ReadsAll s.heap us ds as
  | [], _, _, h, r => by
    cases h
    cases r
    exact ⟨_, ReadsAll.nil⟩
  | d :: ds, _, _, h, r => by
    cases h with
    | cons h1 h2 =>
      cases r with
      | cons r1 r2 =>
        obtain ⟨as, q1⟩ := Dp.reads I d _ _ h1 r1
        obtain ⟨bs, q2⟩ := Dp.readsAll I ds _ _ h2 r2
        exact ⟨_, ReadsAll.cons q1 q2⟩
end
end
section
variable {X : Cx}
end
end L2

namespace L2
open PySem PySem.Spec PyProof.Rows
abbrev CellAt (h : Heap) (c : Addr) (v : Option Value) : Prop := h.IsCell c v
def relS (scope sc : Scope) : Scope :=
  { scope with names := scope.names.map fun (n, k) => if (k == .free && sc.kind == .function && sc.names.lookup n == some .cell) then (n, .cell) else (n, k) }

def cloFrom (cells : List (Str × Addr)) : List (Str × NameKind) → List (Str × Addr) → List (Str × Addr)
  | [], acc => acc
  | (n, k) :: r, acc => if k == .free then cloFrom cells r ((n, (cells.lookup n).getD 0) :: acc) else cloFrom cells r acc

theorem closure_loop (env : Env) (f : Str × NameKind → List (Str × Addr) → Sem (ForInStep (List (Str × Addr))))
    (hf : ∀ n k c, f (n, k) c = if k == .free then (do let a ← cellOf env n; pure (.yield ((n, a) :: c))) else pure (.yield c)) :
    ∀ (names : List (Str × NameKind)) (acc : List (Str × Addr)), (∀ y ∈ names, y.2 = .free → ∃ c, env.cells.lookup y.1 = some c) → forIn names acc f = pure (cloFrom env.cells names acc)
  | [], acc, _ => by rw [List.forIn_nil]; rfl
  | (n, k) :: r, acc, h => by
    rw [List.forIn_cons, hf]
    have ih := fun acc => closure_loop env f hf r acc fun y hy => h y (List.mem_cons_of_mem _ hy)
    unfold cloFrom
    by_cases hk : (k == NameKind.free) = true
    · rw [if_pos hk, if_pos hk]
      obtain ⟨c, hc⟩ := h (n, k) List.mem_cons_self (by simpa using hk)
      have e : cellOf env n = pure c := by unfold cellOf; rw [hc]
      rw [e]
      have e2 : (env.cells.lookup n).getD 0 = c := by rw [hc]; rfl
      rw [e2]
      exact ih _
    · rw [if_neg hk, if_neg hk]
      exact ih _
theorem closure_ok {scope : Scope} {env : Env} (h : ∀ y ∈ scope.names, y.2 = .free → ∃ c, env.cells.lookup y.1 = some c) : closureFor scope env = pure (cloFrom env.cells scope.names []) := by
  simp only [closureFor]
  rw [closure_loop env _ (fun n k c => rfl) scope.names [] h]
  rfl

theorem mem_lookup {α : Type} : ∀ {l : List (Str × α)} {n : Str} {c : α}, (n, c) ∈ l → ∃ c', l.lookup n = some c'
  | (k, v) :: r, n, c, h => by
    rw [List.lookup_cons]
    cases hb : n == k with
    | true => exact ⟨_, rfl⟩
    | false =>
      rcases List.mem_cons.mp h with e | h
      · cases e; simp at hb
      · exact mem_lookup h

theorem cloFrom_mem {cells : List (Str × Addr)} : ∀ {names : List (Str × NameKind)} {acc : List (Str × Addr)} {n : Str} {c : Addr}, (n, c) ∈ cloFrom cells names acc → (n, c) ∈ acc ∨ ((n, .free) ∈ names ∧ c = (cells.lookup n).getD 0)
  | [], _, _, _, h => .inl h
  | (m, k) :: r, acc, n, c, h => by
    unfold cloFrom at h
    split at h
    · rename_i hk
      have hk : k = .free := by simpa using hk
      rcases cloFrom_mem h with h | ⟨h1, h2⟩
      · rcases List.mem_cons.mp h with e | h
        · cases e; exact .inr ⟨hk ▸ List.mem_cons_self, rfl⟩
        · exact .inl h
      · exact .inr ⟨List.mem_cons_of_mem _ h1, h2⟩
    · rcases cloFrom_mem h with h | ⟨h1, h2⟩
      · exact .inl h
      · exact .inr ⟨List.mem_cons_of_mem _ h1, h2⟩
theorem cloFrom_acc {cells : List (Str × Addr)} : ∀ {names : List (Str × NameKind)} {acc : List (Str × Addr)} {p : Str × Addr}, p ∈ acc → p ∈ cloFrom cells names acc
  | [], _, _, h => h
  | (m, k) :: r, acc, p, h => by
    unfold cloFrom
    split
    · exact cloFrom_acc (List.mem_cons_of_mem _ h)
    · exact cloFrom_acc h
theorem cloFrom_has {cells : List (Str × Addr)} : ∀ {names : List (Str × NameKind)} {acc : List (Str × Addr)} {n : Str}, (n, .free) ∈ names → (n, (cells.lookup n).getD 0) ∈ cloFrom cells names acc
  | (m, k) :: r, acc, n, h => by
    unfold cloFrom
    rcases List.mem_cons.mp h with e | h
    · cases e
      exact cloFrom_acc List.mem_cons_self
    · split
      · exact cloFrom_has h
      · exact cloFrom_has h

theorem cells_mem : ∀ {names : List (Str × NameKind)} {h : Heap} {acc : List (Str × Addr)} {x : Str} {c : Addr}, (x, c) ∈ cellsFrom h.objs.size names acc →
    (x, c) ∈ acc ∨ ((x, .cell) ∈ names ∧ h.objs.size ≤ c ∧ CellAt (pushCells h names) c none)
  | [], _, _, _, _, h => .inl h
  | (n, k) :: r, h, acc, x, c, hm => by
    unfold cellsFrom at hm
    unfold pushCells
    split at hm
    · rename_i hk
      rw [if_pos hk]
      have hk : k = .cell := by simpa using hk
      rw [← Heap.size_push h { cls := .type "cell", data := .cell none }] at hm
      rcases cells_mem hm with hm | ⟨h1, h2, h3⟩
      · rcases List.mem_cons.mp hm with e | hm
        · cases e
          exact .inr ⟨hk ▸ List.mem_cons_self, Nat.le_refl _, _, pushCells_keeps r _ _ _ (Heap.get?_push_size _ rfl), rfl⟩
        · exact .inl hm
      · rw [Heap.size_push] at h2
        exact .inr ⟨List.mem_cons_of_mem _ h1, Nat.le_of_succ_le h2, h3⟩
    · rename_i hk
      rw [if_neg hk]
      rcases cells_mem hm with hm | ⟨h1, h2, h3⟩
      · exact .inl hm
      · exact .inr ⟨List.mem_cons_of_mem _ h1, h2, h3⟩
theorem cells_acc : ∀ {names : List (Str × NameKind)} {n : Nat} {acc : List (Str × Addr)} {p : Str × Addr}, p ∈ acc → p ∈ cellsFrom n names acc
  | [], _, _, _, h => h
  | (m, k) :: r, n, acc, p, h => by
    unfold cellsFrom
    split
    · exact cells_acc (List.mem_cons_of_mem _ h)
    · exact cells_acc h
theorem cells_has : ∀ {names : List (Str × NameKind)} {n : Nat} {acc : List (Str × Addr)} {x : Str}, (x, .cell) ∈ names → ∃ c, (x, c) ∈ cellsFrom n names acc
  | (m, k) :: r, n, acc, x, h => by
    unfold cellsFrom
    rcases List.mem_cons.mp h with e | h
    · cases e
      exact ⟨n, cells_acc List.mem_cons_self⟩
    · split
      · exact cells_has h
      · exact cells_has h
theorem cells_inj : ∀ {names : List (Str × NameKind)} {h : Heap} {acc : List (Str × Addr)} {x y : Str} {c : Addr}, (∀ p ∈ acc, p.2 < h.objs.size) → (∀ x y c, (x, c) ∈ acc → (y, c) ∈ acc → x = y) →
    (x, c) ∈ cellsFrom h.objs.size names acc → (y, c) ∈ cellsFrom h.objs.size names acc → x = y
  | [], _, _, _, _, _, _, hi, h1, h2 => hi _ _ _ h1 h2
  | (n, k) :: r, h, acc, x, y, c, hl, hi, h1, h2 => by
    unfold cellsFrom at h1 h2
    split at h1
    · rename_i hk
      rw [if_pos hk] at h2
      rw [← Heap.size_push h { cls := .type "cell", data := .cell none }] at h1 h2
      refine cells_inj (h := h.push _) (fun p hp => ?_) (fun x y c a b => ?_) h1 h2
      · rw [Heap.size_push]
        rcases List.mem_cons.mp hp with rfl | hp
        · exact Nat.lt_succ_self _
        · exact Nat.lt_succ_of_lt (hl p hp)
      · rcases List.mem_cons.mp a with e | a <;> rcases List.mem_cons.mp b with e' | b
        · cases e; cases e'; rfl
        · cases e; exact absurd (hl _ b) (Nat.lt_irrefl _)
        · cases e'; exact absurd (hl _ a) (Nat.lt_irrefl _)
        · exact hi _ _ _ a b
    · rename_i hk
      rw [if_neg hk] at h2
      exact cells_inj hl hi h1 h2

theorem newEnv_comp {M : Model} {A : Around} {E : Value → Shared → Prop} {s : Shared} {scope : Scope} {globals : Addr} {closure : List (Str × Addr)} {qual : Str} {func : Option Addr} {code : Value} {around : Env} {builtins : Addr} {Q : Env → Shared → Prop}
    (h : Q (newEnv scope s.heap.objs.size globals (cellsFrom (s.heap.objs.size + 1) scope.names closure) qual func code (some around) builtins)
      { s with heap := pushCells (s.heap.push { cls := .type "dict", data := .dict #[] }) scope.names }) :
    wpAny M A (newFunctionEnv scope globals closure [] qual func code (some around) builtins) Q E s := by
  simp only [newFunctionEnv, Option.isSome_some, if_true]
  refine wpAny_bind (wpAny_alloc ?_)
  refine wpAny_bind (wpAny_layCells _ (fun n k c => rfl) scope.names closure _ _ ?_)
  rw [show ({ s with heap := s.heap.push { cls := .type "dict", data := .dict #[] } } : Shared).heap.objs.size = s.heap.objs.size + 1 from Heap.size_push ..]
  rw [List.forIn_nil]
  exact wpAny_bind (wpAny_pure (wpAny_pure h))

/-- every name of the written scope, in the scope that runs -/
theorem lookup_relS {sc : Scope} : ∀ {names : List (Str × NameKind)} {x : Str} {k : NameKind},
    (names.map fun (n, k) => if (k == NameKind.free && sc.kind == .function && sc.names.lookup n == some .cell) then (n, NameKind.cell) else (n, k)).lookup x = some k →
    ∃ k', names.lookup x = some k' ∧ (k = k' ∨ (k' = .free ∧ k = .cell))
  | [], _, _, h => by simp at h
  | (n, k₀) :: r, x, k, h => by
    have ih := @lookup_relS sc r x k
    have h' : List.lookup x ((if (k₀ == NameKind.free && sc.kind == .function && sc.names.lookup n == some .cell) = true then (n, NameKind.cell) else (n, k₀)) :: (r.map _)) = some k := h
    cases hx : x == n with
    | true =>
      simp only [List.lookup_cons, hx]
      by_cases hc : (k₀ == NameKind.free && sc.kind == .function && sc.names.lookup n == some .cell) = true
      · rw [if_pos hc] at h'
        simp only [List.lookup_cons, hx] at h'
        cases h'
        simp only [Bool.and_eq_true, beq_iff_eq] at hc
        exact ⟨k₀, rfl, .inr ⟨hc.1.1, rfl⟩⟩
      · rw [if_neg hc] at h'
        simp only [List.lookup_cons, hx] at h'
        cases h'
        exact ⟨_, rfl, .inl rfl⟩
    | false =>
      simp only [List.lookup_cons, hx]
      by_cases hc : (k₀ == NameKind.free && sc.kind == .function && sc.names.lookup n == some .cell) = true
      · rw [if_pos hc] at h'
        simp only [List.lookup_cons, hx] at h'
        exact ih h'
      · rw [if_neg hc] at h'
        simp only [List.lookup_cons, hx] at h'
        exact ih h'



/-- the names of a comprehension's block: its own (with their places in N), or captured -/
structure BlkOk (N : List Str) (sc scope : Scope) (own : List (Str × Nat)) : Prop where
  kind : scope.kind = .function
  uniq : ∀ y ∈ scope.names, scope.names.lookup y.1 = some y.2
  ix : ∀ p ∈ own, N[p.2]? = some p.1
  free : ∀ y ∈ scope.names, y.2 = .free → sc.names.lookup y.1 = some .cell ∨ sc.names.lookup y.1 = some .free
  own : ∀ y ∈ scope.names, y.2 = .local ∨ y.2 = .cell → y.1 ∈ own.map (·.1) ∨ y.1 ∉ N
/-- the slots of the block's own names forgotten -/
def wipe (σ : St) : List Nat → St
  | [] => σ
  | v :: vs => (wipe σ vs).set v none
theorem wipe_length (σ : St) : ∀ vs : List Nat, (wipe σ vs).length = σ.length
  | [] => rfl
  | v :: vs => by unfold wipe; rw [List.length_set, wipe_length σ vs]
theorem wipe_some {σ : St} {i : Nat} {x : V} : ∀ {vs : List Nat}, (wipe σ vs)[i]? = some (some x) → σ[i]? = some (some x) ∧ i ∉ vs
  | [], h => ⟨h, by simp⟩
  | v :: vs, h => by
    unfold wipe at h
    by_cases hi : v = i
    · subst hi
      by_cases hv : v < (wipe σ vs).length
      · rw [List.getElem?_set_self hv] at h; cases h
      · rw [List.getElem?_eq_none (by simpa using hv)] at h; cases h
    · rw [List.getElem?_set_ne hi] at h
      obtain ⟨h1, h2⟩ := wipe_some h
      exact ⟨h1, by simp only [List.mem_cons, not_or]; exact ⟨fun e => hi e.symm, h2⟩⟩

/-- the context of a block that starts at s, its iterator's objects at fp -/
abbrev Cx.blk (X : Cx) (s : Shared) (H : Hp) (scope : Scope) (cenv : Env) (fp : List Addr) : Cx := { X with s_0 := s, H_0 := H, env := cenv, outer := X.stack, ex := fp, fn := fun x => scope.names.lookup x == some .cell, pn := [], xe := fun _ _ => False }
section
variable {X : Cx} {pins : List (Addr × Obj)} {σ : St} {H : Hp} {s : Shared}
theorem block_start {scope : Scope} {own : List (Str × Nat)} {fp : List Addr} (I : Inv X pins σ H s) (ok : BlkOk X.N X.env.scope scope own) (hN : X.N.Nodup) (hfp : ∀ b ∈ fp, FpOk X pins H b ∧ b < s.heap.objs.size) :
    Inv (X.blk s H scope (compEnvC scope (cellsFrom (s.heap.objs.size + 1) scope.names (cloFrom X.env.cells scope.names [])) s.heap.objs.size X.env) fp) [] (wipe σ (own.map (·.2))) H { s with heap := pushCells (s.heap.push { cls := .type "dict", data := .dict #[] }) scope.names } := by
  have hfree : ∀ y ∈ scope.names, y.2 = .free → ∃ c, X.env.cells.lookup y.1 = some c := fun y hy e => by
    rcases ok.free y hy e with k | k
    · exact I.ok.has _ (.inl k)
    · exact I.ok.has _ (.inr k)
  generalize hcenv : compEnvC scope (cellsFrom (s.heap.objs.size + 1) scope.names (cloFrom X.env.cells scope.names [])) s.heap.objs.size X.env = cenv
  have kp : ∀ b o, s.heap.get? b = some o → (pushCells (s.heap.push { cls := .type "dict", data := .dict #[] }) scope.names).get? b = some o := fun b o e => pushCells_keeps _ _ _ _ (Heap.get?_push_of_some _ e)
  have hL : cenv.locals = s.heap.objs.size := by rw [← hcenv]; rfl
  have hcl : cenv.cells = cellsFrom (s.heap.objs.size + 1) scope.names (cloFrom X.env.cells scope.names []) := by rw [← hcenv]; rfl
  have hsc : cenv.scope = relS scope X.env.scope := by rw [← hcenv]; rfl
  rw [← Heap.size_push s.heap { cls := .type "dict", data := .dict #[] }] at hcl
  have cm : ∀ {y c}, (y, c) ∈ cloFrom X.env.cells scope.names [] → X.env.cells.lookup y = some c ∧ c < s.heap.objs.size := fun {y c} hm => by
    rcases cloFrom_mem hm with hm | ⟨h1, rfl⟩
    · cases hm
    · obtain ⟨c, hc⟩ := hfree _ h1 rfl
      rw [hc]
      obtain ⟨w, z⟩ := I.cell _ _ hc
      exact ⟨rfl, z.lt⟩
  have mem : ∀ {y c}, cenv.cells.lookup y = some c → (X.env.cells.lookup y = some c ∧ c < s.heap.objs.size) ∨ (s.heap.objs.size + 1 ≤ c ∧ CellAt (pushCells (s.heap.push { cls := .type "dict", data := .dict #[] }) scope.names) c none) := fun {y c} e => by
    rw [hcl] at e
    rcases cells_mem (PySem.mem_of_lookup e) with hm | ⟨_, h2, h3⟩
    · exact .inl (cm hm)
    · rw [Heap.size_push] at h2; exact .inr ⟨h2, h3⟩
  have look : ∀ {y}, scope.names.lookup y = some .free → ∃ c, cenv.cells.lookup y = some c ∧ X.env.cells.lookup y = some c := fun {y} hl => by
    have hy : (y, NameKind.free) ∈ scope.names := PySem.mem_of_lookup hl
    obtain ⟨c', e'⟩ := mem_lookup (cells_acc (names := scope.names) (n := (s.heap.push { cls := .type "dict", data := .dict #[] }).objs.size) (cloFrom_has (cells := X.env.cells) (acc := []) hy))
    rw [← hcl] at e'
    refine ⟨c', e', ?_⟩
    rw [hcl] at e'
    rcases cells_mem (PySem.mem_of_lookup e') with hm | ⟨h1, _, _⟩
    · exact (cm hm).1
    · have := ok.uniq _ h1
      rw [hl] at this; cases this
  have okB : (X.blk s H scope cenv fp).Ok := by
    refine ⟨I.ok.mod, by show cenv.scope.kind = _; rw [hsc]; exact ok.kind, by show cenv.globals = _; rw [← hcenv]; exact I.ok.glob, by show cenv.builtins = _; rw [← hcenv]; exact I.ok.blt, by show s.heap.objs.size ≤ cenv.locals; rw [hL]; exact Nat.le_refl _,
      fun y z c e1 e2 => ?_, fun y hy => ?_, fun y c z e => ?_, I.ok.hd, I.ok.frames, .inl rfl, fun b hb => ⟨?_, fun y c e z => ?_⟩, I.bs, Nat.le_trans I.ok.bsz I.sz, fun b o e hb => ?_, fun b hb z => ?_, I.stack, I.stkFree⟩
    · have e1 : cenv.cells.lookup y = some c := e1
      have e2 : cenv.cells.lookup z = some c := e2
      rw [hcl] at e1 e2
      refine cells_inj (fun p hp => ?_) (fun y z c a b => I.ok.inj y z c (cm a).1 (cm b).1) (PySem.mem_of_lookup e1) (PySem.mem_of_lookup e2)
      rw [Heap.size_push]
      exact Nat.lt_succ_of_lt (cm (y := p.1) (c := p.2) hp).2
    · show ∃ c, cenv.cells.lookup y = some c
      have key : ∀ k, cenv.kindOf y = some k → (k = .cell ∨ k = .free) → ∃ c, cenv.cells.lookup y = some c := fun k hk hk' => by
        unfold Env.kindOf at hk
        rw [hsc] at hk
        obtain ⟨k', e, r⟩ := lookup_relS hk
        have : k' = .cell ∨ k' = .free := by
          rcases r with rfl | ⟨rfl, _⟩
          · exact hk'
          · exact .inr rfl
        rcases this with rfl | rfl
        · obtain ⟨c, hm⟩ := cells_has (n := (s.heap.push { cls := .type "dict", data := .dict #[] }).objs.size) (acc := cloFrom X.env.cells scope.names []) (PySem.mem_of_lookup e)
          obtain ⟨c', e'⟩ := mem_lookup hm
          exact ⟨c', by rw [hcl]; exact e'⟩
        · obtain ⟨c, h1, _⟩ := look e
          exact ⟨c, h1⟩
      rcases hy with hy | hy
      · exact key _ hy (.inl rfl)
      · exact key _ hy (.inr rfl)
    · have z : (scope.names.lookup y == some NameKind.cell) = true := z
      have z : scope.names.lookup y = some .cell := by simpa using z
      have e : cenv.cells.lookup y = some c := e
      rw [hcl] at e
      rcases cells_mem (PySem.mem_of_lookup e) with hm | ⟨_, h2, _⟩
      · rcases cloFrom_mem hm with hm | ⟨h1, _⟩
        · cases hm
        · have q := ok.uniq _ h1
          rw [z] at q; cases q
      · rw [Heap.size_push] at h2
        exact Nat.le_of_succ_le h2
    · show b ≠ cenv.locals
      rw [hL]; exact Nat.ne_of_lt (hfp b hb).2
    · have e : cenv.cells.lookup y = some c := e
      rcases mem e with ⟨h1, _⟩ | ⟨h1, _⟩
      · exact (hfp b hb).1.2.2.2.2.1 y c h1 z
      · have h2 : s.heap.objs.size + 1 ≤ b := by rw [← z]; exact h1
        exact absurd (Nat.lt_of_lt_of_le (hfp b hb).2 (Nat.le_of_succ_le h2)) (Nat.lt_irrefl _)
    · rcases (hfp b hb).1.2.2.2.1 with z | z
      · exact I.ok.noex b o e z
      · exact absurd (Nat.lt_of_lt_of_le (Heap.lt_size e) (Nat.le_trans I.ok.bsz z)) (Nat.lt_irrefl _)
    · rcases List.mem_cons.mp (I.stkSub b z) with z | z
      · exact (hfp b hb).1.2.1 z
      · exact (hfp b hb).1.2.2.1 z
  refine ⟨okB, rfl, I.bare, Un.kept kp, ⟨fun _ => none, ?_, fun i y av e1 e2 e3 => ?_⟩, fun y c e => ?_, ?_, fun y c e => ?_, fun p hp => ?_, I.hok.kept kp, by rw [wipe_length]; exact I.len⟩
  · show Heap.Ns _ cenv.locals _
    rw [hL]
    exact Heap.Ns.keeps (Heap.Ns.new ..) fun b o e => pushCells_keeps _ _ _ _ e
  · obtain ⟨e2, hne⟩ := wipe_some e2
    have hfr : scope.names.lookup y = some .free ∧ (cenv.kindOf y = some .cell ∨ cenv.kindOf y = some .free) := by
      have key : ∀ k, cenv.scope.names.lookup y = some k → k = .local ∨ k = .cell ∨ k = .free → scope.names.lookup y = some .free ∧ (cenv.kindOf y = some .cell ∨ cenv.kindOf y = some .free) := fun k hk hk' => by
        have hk0 := hk
        rw [hsc] at hk
        obtain ⟨k', e, r⟩ := lookup_relS hk
        have no : ¬ (k' = .local ∨ k' = .cell) := fun hh => by
          rcases ok.own _ (PySem.mem_of_lookup e) hh with e' | e'
          · obtain ⟨p, hp, hpy⟩ := List.mem_map.mp e'
            have e3 := ok.ix p hp
            have : p.1 = y := hpy
            rw [this] at e3
            exact hne (List.mem_map.mpr ⟨p, hp, nodup_ix hN e3 e1⟩)
          · exact e' (List.mem_of_getElem? e1)
        rcases r with rfl | ⟨rfl, rfl⟩
        · rcases hk' with rfl | rfl | rfl
          · exact absurd (.inl rfl) no
          · exact absurd (.inr rfl) no
          · exact ⟨e, .inr hk0⟩
        · exact ⟨e, .inl hk0⟩
      have e3 : Vis cenv.scope y := e3
      rcases e3 with e3 | e3 | e3
      · exact key _ e3 (.inl rfl)
      · exact key _ e3 (.inr (.inl rfl))
      · exact key _ e3 (.inr (.inr rfl))
    obtain ⟨m, hn, hl⟩ := I.loc
    have hvis : Vis X.env.scope y := (ok.free _ (PySem.mem_of_lookup hfr.1) rfl).elim (fun k => .inr (.inl k)) (fun k => .inr (.inr k))
    obtain ⟨w, r, q⟩ := hl i y av e1 e2 hvis
    refine ⟨w, r, .inr ⟨hfr.2, ?_⟩⟩
    obtain ⟨c, h1, h2⟩ := look hfr.1
    rcases q with ⟨k, _⟩ | ⟨_, c', e', z⟩
    · have k : X.env.scope.names.lookup y = some .local := k
      rcases ok.free _ (PySem.mem_of_lookup hfr.1) rfl with k' | k' <;> rw [show X.env.scope.names.lookup y = _ from k'] at k <;> cases k
    · rw [h2] at e'; cases e'
      exact ⟨c, h1, z.keeps kp⟩
  · have e : cenv.cells.lookup y = some c := e
    rcases mem e with ⟨h1, _⟩ | ⟨_, z⟩
    · obtain ⟨w, z⟩ := I.cell y c h1
      exact ⟨w, z.keeps kp⟩
    · exact ⟨_, z⟩
  · show H cenv.locals = none
    rw [hL]; exact I.hok.fresh (Nat.le_refl _)
  · have e : cenv.cells.lookup y = some c := e
    rcases mem e with ⟨h1, _⟩ | ⟨h1, _⟩
    · exact I.freeC y c h1
    · exact I.hok.fresh (Nat.le_of_succ_le h1)
  · exact absurd (show p ∈ ([] : List (Addr × Obj)) ++ [] from hp) (by simp)

/-- an item appended to a tracked list -/
theorem app_ok {E : Value → Shared → Prop} {D : Addr} {xs : List V} {y : V} {v : Value} {Q : Value → Shared → Prop} (I : Inv X pins σ H s) (hD : H D = some (.lst xs)) (hz : xs.length < sizeLine) (r : RelV y v)
    (h : ∀ s', Inv X pins σ (upd H D (.lst (xs ++ [y]))) s' → Q .none s') : wpAny (model X.prog X.w) X.A (call (.builtin "list.append") [.ref D, v]) Q E s := by
  obtain ⟨hz', its, n, ri, e⟩ := I.hok D _ hD
  have hl := ri.length
  refine append_at (hsz := by rw [List.size_toArray]; omega) e fun h' sb ho' => ?_
  refine h { s with heap := h' } (I.write (t' := s.toks) (by rw [hD]; trivial) (.inl rfl) (fun b u hb q => (sb.2 b hb).trans q) ⟨_, ho'⟩ ⟨by rw [List.length_append]; exact hz, its ++ [v], n + 1, ri.append (.cons r .nil), ?_⟩)
  rw [ho']
  simp

/-- a clause's tests -/
def PTs (X : Cx) (ifs : List Expr) (t : TT) : Prop :=
  ∀ (pins : List (Addr × Obj)) (s : Shared) (σ : St) (H : Hp) (Q : Bool → Hp → Prop), Inv X pins σ H s → t σ H Q →
    wpAny (model X.prog X.w) X.A (forIn ifs true fun c r => if r = true then do let ok ← isTrue c X.env (eval c X.env); pure (ForInStep.yield ok) else pure (ForInStep.yield r)) (TP X pins σ Q) X.xe s
def tYes : TT := fun _ H Q => Q true H
theorem pts_nil : PTs X [] tYes := fun _ _ _ H _ I h => wpAny_tests_nil ⟨H, I, h⟩
end

theorem thnF {α : Type} {t : Sem α} {Q Q' : α → Shared → Prop} {M : Model} {A : Around} {E : Value → Shared → Prop} {s : Shared} (h : wpAny M A t Q (fun _ _ => False) s) (hQ : ∀ a s, Q a s → Q' a s) : wpAny M A t Q' E s := wpAny_mono h hQ fun _ _ z => False.elim z

/-- the loop of a list comprehension's block, the target of any form (codeAny_compLoop_tests asks a target that no tuple goes to; statement and proof follow it, PyProof/CompMap.lean:41-61, with the step letOwnedTupleGo kept) -/
theorem compLoop_any {prog : Program} {w : World} {A : Around} {R : Result → Shared → Prop} {s : Shared} {elt target iter : Expr} {ifs : List Expr} {scope : Scope} {pos : Pos} {it acc : Value} {env : Env} (I : Nat → Shared → Prop)
    (turn : ∀ n s, I n s → wpAny (model prog w) A (pyNext it) (fun r s₁ => match r with
      | none => R (.ok .next) s₁
      | some v => wpAny (model prog w) A (letOwnedTupleGo target it v) (fun _ s₁' => wpAny (model prog w) A (assign target env v) (fun _ s₂ =>
          wpAny (model prog w) A (forIn ifs true fun c r => if r = true then do let ok ← isTrue c env (eval c env); pure (ForInStep.yield ok) else pure (ForInStep.yield r)) (fun ok s₃ =>
            if ok = true then wpAny (model prog w) A (eval elt env) (fun x s₄ =>
              wpAny (model prog w) A (call (.builtin "list.append") [acc, x]) (fun _ s₅ => ∃ m, m < n ∧ I m s₅) (notedBy (model prog w) A env fun e s' => R (.error e) s') s₄) (notedBy (model prog w) A env fun e s' => R (.error e) s') s₃
            else ∃ m, m < n ∧ I m s₃) (notedBy (model prog w) A env fun e s' => R (.error e) s') s₂) (notedBy (model prog w) A env fun e s' => R (.error e) s') s₁') (notedBy (model prog w) A env fun e s' => R (.error e) s') s₁) (notedBy (model prog w) A env fun e s' => R (.error e) s') s)
    (n : Nat) (h : I n s) :
    codeAny (model prog w) A (.compLoop (.ListComp elt [⟨target, iter, ifs, 0⟩] scope pos) 0 it acc env) R s := by
  refine codeAny_loop rfl I (fun n s hI => ?_) n h
  show wpAny _ A ((compTurn (.ListComp elt [⟨target, iter, ifs, 0⟩] scope pos) 0 it acc env).onRaise (fun x => do noteFrame x env; theTreesLotGoes x)) _ _ s
  refine wpAny_noted ?_
  rw [compTurn_list]
  refine wpAny_bind (wpAny_standAt (wpAny_bind (wpAny_mono (turn n s hI) (fun r s₁ h₁ => ?_) fun _ _ h' => h')))
  cases r with
  | none => exact wpAny_pure h₁
  | some v =>
    refine wpAny_bind (wpAny_mono h₁ (fun _ s₁' h₁' => ?_) fun _ _ h' => h')
    refine wpAny_bind (wpAny_mono h₁' (fun _ s₂ h₂ => wpAny_bind (wpAny_mono h₂ (fun ok s₃ h₃ => ?_) fun _ _ h' => h')) fun _ _ h' => h')
    cases ok with
    | false => exact wpAny_pure ⟨rfl, h₃⟩
    | true =>
      exact wpAny_bind (wpAny_bind (wpAny_mono h₃ (fun x s₄ h₄ => wpAny_bind (wpAny_mono h₄ (fun _ s₅ h₅ => wpAny_pure (wpAny_pure ⟨rfl, h₅⟩)) fun _ _ h' => h')) fun _ _ h' => h'))

section
variable {X : Cx}
/-- [elt for target in iter if ..]: D the new list; W by the turn and a measure, Nx what a turn is to reach -/
def tLc (wi : TI) (g : TG) (tt : TT) (te : TE) (vs : List Nat) : TE := fun σ H Q => wi σ H fun J H1 => ∀ D, H1 D = none → ∃ W : Nat → Nat → Hp → Prop, (∃ m, W 0 m (upd H1 D (.lst []))) ∧ ∀ i m H, W i m H →
  (J.stop i H ∧ Q (.ref D) H) ∨ (J.go i H ∧ ∃ Nx : Hp → Prop, (∀ H', Nx H' → ∃ m', m' < m ∧ W (i + 1) m' H') ∧ ∀ x H', J.yld i H x H' → g x (wipe σ vs) H' fun σ2 H2 => wipe σ2 vs = wipe σ vs ∧ tt σ2 H2 fun b H3 =>
    if b = true then te σ2 H3 fun y H4 => ∃ acc, H4 D = some (.lst acc) ∧ acc.length < sizeLine ∧ Nx (upd H4 D (.lst (acc ++ [y]))) else Nx H3)
theorem lc_core {pins : List (Addr × Obj)} {s : Shared} {σ : St} {H : Hp} {Q : VK} {elt tg iter : Expr} {ifs : List Expr} {scope : Scope} {own : List (Str × Nat)} {pos pos' : Pos} {wi : TI} {g : TG} {tt : TT} {te : TE} {use : Option (Value → Sem Unit)} {Qf : Value → Shared → Prop}
    (hc : X.calm = true) (hN : X.N.Nodup) (I : Inv X pins σ H s) (hi : PI X tg iter wi) (ok : BlkOk X.N X.env.scope scope own)
    (hg : ∀ (s : Shared) (H : Hp) (C : Addr) (cl : List (Str × Addr)) (fp : List Addr), PG (X.blk s H scope (compEnvC scope cl C X.env) fp) tg g) (ht : ∀ (s : Shared) (H : Hp) (C : Addr) (cl : List (Str × Addr)) (fp : List Addr), PTs (X.blk s H scope (compEnvC scope cl C X.env) fp) ifs tt)
    (he : ∀ (s : Shared) (H : Hp) (C : Addr) (cl : List (Str × Addr)) (fp : List Addr), PE (X.blk s H scope (compEnvC scope cl C X.env) fp) elt te) (hs : ∀ x, foldedSetIterable iter X.env x = pure x)
    (h : tLc wi g tt te (own.map (·.2)) σ H Q)
    (hRR : ∀ D C s' m H', Inv X pins σ H' s' → Q (.ref D) H' → s'.heap.Ns C m → FpOk X pins H' C → compPost (model X.prog X.w) X.A X.xe use Qf (.ref D) C (.ok .next) s') :
    wpAny (model X.prog X.w) X.A (comprehension (.ListComp elt [⟨tg, iter, ifs, 0⟩] scope pos) scope X.env pos' (newList []) false (eval iter X.env) use) Qf X.xe s := by
  have hfree : ∀ y ∈ scope.names, y.2 = .free → ∃ c, X.env.cells.lookup y.1 = some c := fun y hy e => by
    rcases ok.free y hy e with k | k
    · exact I.ok.has _ (.inl k)
    · exact I.ok.has _ (.inr k)
  refine wpAny_comprehension_free (use := use) rfl hs (closure_ok hfree) ok.kind (fun y hy e => by rw [ok.uniq y hy, e])
    (thn (hi pins s σ H _ I h) fun xv s1 hx => thn hx fun itv s2 h2 => ?_)
  obtain ⟨it, fp, tn, J, H2, e, I2, T, st2, f2, q⟩ := h2
  subst e
  refine wpAny_newObj_type (newEnv_comp ?_) (by show 0 ≤ sizeLine; decide)
  generalize hD : s2.heap.objs.size = D
  have hDn : H2 D = none := I2.hok.fresh (Nat.le_of_eq hD)
  obtain ⟨W, ⟨m0, w0⟩, turn⟩ := q D hDn
  -- the new list
  generalize hs3 : ({ s2 with heap := s2.heap.push { cls := .type "list", data := .seq ([] : List Value).toArray } } : Shared) = s3
  have I3 : Inv X pins σ (upd H2 D (.lst [])) s3 := by
    rw [← hs3]
    refine I2.laid (t' := s2.toks) (fun b o e => Heap.get?_push_of_some _ e) (Nat.le_of_eq hD) ⟨Nat.zero_le _, [], 0, .nil, ?_⟩
    rw [← hD]
    exact Heap.get?_push_size _ rfl
  have h3 : s3.heap = s2.heap.push { cls := .type "list", data := .seq ([] : List Value).toArray } := by rw [← hs3]
  have sz : ∀ b ∈ fp, b < s2.heap.objs.size := fun b hb => by
    obtain ⟨o, e, _⟩ := T.obj _ _ st2 b hb
    exact Heap.lt_size e
  have f3 : ∀ b ∈ fp, FpOk X pins (upd H2 D (.lst [])) b ∧ b < s3.heap.objs.size := fun b hb => by
    have hlt := sz b hb
    refine ⟨⟨?_, (f2 b hb).2⟩, by rw [h3, Heap.size_push]; exact Nat.lt_succ_of_lt hlt⟩
    rw [upd_ne (by rw [← hD]; exact Nat.ne_of_lt hlt)]
    exact (f2 b hb).1
  have st3 : tn 0 s3.heap := T.keep _ _ _ st2 fun b _ o e => by rw [h3]; exact Heap.get?_push_of_some _ e
  have I4 := block_start I3 ok hN f3
  have pg := hg s3 (upd H2 D (.lst [])) s3.heap.objs.size (cellsFrom (s3.heap.objs.size + 1) scope.names (cloFrom X.env.cells scope.names [])) fp
  have pt := ht s3 (upd H2 D (.lst [])) s3.heap.objs.size (cellsFrom (s3.heap.objs.size + 1) scope.names (cloFrom X.env.cells scope.names [])) fp
  have pe := he s3 (upd H2 D (.lst [])) s3.heap.objs.size (cellsFrom (s3.heap.objs.size + 1) scope.names (cloFrom X.env.cells scope.names [])) fp
  show codeAny _ _ (.compStart (.ListComp elt [⟨tg, iter, ifs, 0⟩] scope pos) 0 (.ref it) (.ref D) (compEnvC scope (cellsFrom (s3.heap.objs.size + 1) scope.names (cloFrom X.env.cells scope.names [])) s3.heap.objs.size X.env)) (compPost (model X.prog X.w) X.A X.xe use Qf (.ref D) s3.heap.objs.size) { s3 with heap := pushCells (s3.heap.push { cls := .type "dict", data := .dict #[] }) scope.names }
  have nfp : ∀ b ∈ fp, (upd H2 D (.lst [])) b = none := fun b hb => (f3 b hb).1.1
  generalize hce : compEnvC scope (cellsFrom (s3.heap.objs.size + 1) scope.names (cloFrom X.env.cells scope.names [])) s3.heap.objs.size X.env = ce at I4 pg pt pe ⊢
  have cL : ce.locals = s3.heap.objs.size := by subst hce; rfl
  generalize hH3 : upd H2 D (.lst []) = H3 at I3 I4 pg pt pe w0 nfp f3
  generalize hs4 : ({ s3 with heap := pushCells (s3.heap.push { cls := .type "dict", data := .dict #[] }) scope.names } : Shared) = s4 at I4 ⊢
  have st4 : tn 0 s4.heap := T.keep _ _ _ st3 fun b _ o e => by rw [← hs4]; exact pushCells_keeps _ _ _ _ (Heap.get?_push_of_some _ e)
  have stat : ∀ {σ' : St} {H' : Hp} {s' : Shared}, Inv (X.blk s3 H3 scope ce fp) [] σ' H' s' → (∀ b ∈ fp, H' b = none) → ∀ b ∈ fp, FpOk (X.blk s3 H3 scope ce fp) [] H' b := fun {σ' H' s'} I' hn b hb =>
    ⟨hn b hb, (I'.ok.exf b hb).1, I'.ok.exfs b hb, .inl hb, fun x c e => (I'.ok.exf b hb).2 x c e, fun p hp => absurd (show p ∈ ([] : List (Addr × Obj)) ++ [] from hp) (by simp)⟩
  have loop : codeAny (model X.prog X.w) X.A (.compLoop (.ListComp elt [⟨tg, iter, ifs, 0⟩] scope pos) 0 (.ref it) (.ref D) ce) (compPost (model X.prog X.w) X.A X.xe use Qf (.ref D) s3.heap.objs.size) s4 := by
    refine compLoop_any (fun n s' => ∃ i H', Inv (X.blk s3 H3 scope ce fp) [] (wipe σ (own.map (·.2))) H' s' ∧ tn i s'.heap ∧ (∀ b ∈ fp, H' b = none) ∧ W i n H') ?_ m0 ⟨0, H3, I4, st4, nfp, w0⟩
    rintro n s5 ⟨i, H5, I5, st5, n5, w5⟩
    rcases turn i n H5 w5 with ⟨stop, qq⟩ | ⟨go, Nx, hNx, step⟩
    · have td := T.done (X.blk s3 H3 scope ce fp) rfl rfl rfl hc i [] s5 _ H5 (fun _ _ => False) I5 (stat I5 n5) st5 stop
      refine thnF td fun r s6 ⟨hr, I6⟩ => ?_
      subst hr
      -- back in the def's context
      have I7 : Inv X pins σ H5 s6 := I3.call' (ch := fp) I6.os I6.base I6.hok I6.bare fun b hb => ⟨(f3 b hb).1.2.2.2.1, (f3 b hb).1.2.1, (f3 b hb).1.2.2.2.2.1, (f3 b hb).1.2.2.2.2.2⟩
      have nC : H5 s3.heap.objs.size = none := by
        have z : H5 ce.locals = none := I6.free
        rw [cL] at z
        exact z
      obtain ⟨m, hn, _⟩ := I6.loc
      have hn : s6.heap.Ns ce.locals m := hn
      rw [cL] at hn
      exact hRR D s3.heap.objs.size s6 m H5 I7 qq hn (I3.fpOk (Nat.le_refl _) nC)
    · have ti := T.item (X.blk s3 H3 scope ce fp) rfl rfl rfl hc i [] s5 _ H5 (fun _ _ => False) I5 (stat I5 n5) st5 go
      refine thnF ti fun r s6 ⟨u, hr, h6⟩ => ?_
      subst hr
      refine thnF h6 fun _ s7 ⟨x, H7, I7, r7, y7, st7, n7⟩ => ?_
      have I7' := I7.pinned (stat I7 n7) (T.obj _ _ st7)
      refine thnF (pg _ s7 _ H7 x u _ I7' r7 (step x H7 y7)) fun _ s8 ⟨σ8, H8, I8, hw8, q8⟩ => ?_
      refine thnF (pt _ s8 σ8 H8 _ I8 q8) fun b s9 ⟨H9, I9, q9⟩ => ?_
      -- the turn's end
      have fin : ∀ {s' : Shared} {H' : Hp}, Inv (X.blk s3 H3 scope ce fp) ([] ++ pinsAt fp s7.heap) σ8 H' s' → Nx H' → ∃ m, m < n ∧ ∃ i H', Inv (X.blk s3 H3 scope ce fp) [] (wipe σ (own.map (·.2))) H' s' ∧ tn i s'.heap ∧ (∀ b ∈ fp, H' b = none) ∧ W i m H' := fun {s' H'} I' nx => by
        obtain ⟨m', hm, w'⟩ := hNx H' nx
        have pin' : ∀ b ∈ fp, ∀ o, s7.heap.get? b = some o → s'.heap.get? b = some o ∧ H' b = none := fun b hb o e =>
          let z := I'.pin (b, o) (List.mem_append_right _ (List.mem_append_right _ (mem_pinsAt hb e)))
          ⟨z.1, z.2.1⟩
        have hl : (wipe σ (own.map (·.2))).length = σ8.length := by rw [← hw8, wipe_length]
        refine ⟨m', hm, i + 1, H', (I'.unpinned (pins := [])).weak hl (fun j v e => ?_), T.keep _ _ _ st7 fun b hb o e => (pin' b hb o e).1, fun b hb => ?_, w'⟩
        · rw [← hw8] at e
          exact (wipe_some e).1
        · obtain ⟨o, e, _⟩ := T.obj _ _ st7 b hb
          exact (pin' b hb o e).2
      cases b with
      | false =>
        simp only [Bool.false_eq_true, if_false] at q9 ⊢
        exact fin I9 q9
      | true =>
        simp only [if_true] at q9 ⊢
        refine thnF (pe _ s9 σ8 H9 _ I9 q9) fun z s10 ⟨yv, H10, I10, r10, acc, hD10, hz10, nx⟩ => ?_
        exact app_ok (X := X.blk s3 H3 scope ce fp) I10 hD10 hz10 r10 fun s11 I11 => fin I11 nx
  exact codeAny_compStart_list loop (T.self X.A 0 _ _ _ st4 loop)
/-- as a value -/
theorem pe_lc {elt tg iter : Expr} {ifs : List Expr} {scope : Scope} {own : List (Str × Nat)} {pos : Pos} {wi : TI} {g : TG} {tt : TT} {te : TE} (hc : X.calm = true) (hN : X.N.Nodup) (hi : PI X tg iter wi) (ok : BlkOk X.N X.env.scope scope own)
    (hg : ∀ (s : Shared) (H : Hp) (C : Addr) (cl : List (Str × Addr)) (fp : List Addr), PG (X.blk s H scope (compEnvC scope cl C X.env) fp) tg g) (ht : ∀ (s : Shared) (H : Hp) (C : Addr) (cl : List (Str × Addr)) (fp : List Addr), PTs (X.blk s H scope (compEnvC scope cl C X.env) fp) ifs tt)
    (he : ∀ (s : Shared) (H : Hp) (C : Addr) (cl : List (Str × Addr)) (fp : List Addr), PE (X.blk s H scope (compEnvC scope cl C X.env) fp) elt te) (hs : ∀ x, foldedSetIterable iter X.env x = pure x := by intro _; rfl) :
    PE X (.ListComp elt [⟨tg, iter, ifs, 0⟩] scope pos) (tLc wi g tt te (own.map (·.2))) := by
  intro pins s σ H Q I h
  rw [eval_ListComp]
  refine lc_core hc hN I hi ok hg ht he hs h fun D C s' m H' I' q hn f => ⟨m, hn, fun h'' sb => ?_⟩
  obtain ⟨f0, f1, f2, f3, f4, f5⟩ := f
  exact ⟨.ref D, H', I'.turned (t' := s'.toks) (fun b o hb e => (sb.2 b hb).trans e) f0 f1 f3 f4 f5, rfl, q⟩
end

/-! ### the forms one uses -/
/-- over a range: Pv by the turn and the heap (the new list at D within) -/
theorem lc_range {lo : Int} {n : Nat} {g : TG} {tt : TT} {te : TE} {vs : List Nat} {σ : St} {H1 : Hp} {D : Addr} {Qd : Hp → Prop} (Pv : Nat → Hp → Prop) (h0 : Pv 0 (upd H1 D (.lst [])))
    (hs : ∀ i H, i < n → Pv i H → g (.int (lo + i)) (wipe σ vs) H fun σ2 H2 => wipe σ2 vs = wipe σ vs ∧ tt σ2 H2 fun b H3 =>
      if b = true then te σ2 H3 fun y H4 => ∃ acc, H4 D = some (.lst acc) ∧ acc.length < sizeLine ∧ Pv (i + 1) (upd H4 D (.lst (acc ++ [y]))) else Pv (i + 1) H3) (hd : ∀ H, Pv n H → Qd H) :
    ∃ W : Nat → Nat → Hp → Prop, (∃ m, W 0 m (upd H1 D (.lst []))) ∧ ∀ i m H, W i m H →
      ((Itr lo n).stop i H ∧ Qd H) ∨ ((Itr lo n).go i H ∧ ∃ Nx : Hp → Prop, (∀ H', Nx H' → ∃ m', m' < m ∧ W (i + 1) m' H') ∧ ∀ x H', (Itr lo n).yld i H x H' → g x (wipe σ vs) H' fun σ2 H2 => wipe σ2 vs = wipe σ vs ∧ tt σ2 H2 fun b H3 =>
        if b = true then te σ2 H3 fun y H4 => ∃ acc, H4 D = some (.lst acc) ∧ acc.length < sizeLine ∧ Nx (upd H4 D (.lst (acc ++ [y]))) else Nx H3) := by
  refine ⟨fun i m H => m = n - i ∧ i ≤ n ∧ Pv i H, ⟨n, by simp, Nat.zero_le _, h0⟩, ?_⟩
  rintro i m H ⟨rfl, hi, p⟩
  by_cases hlt : i < n
  · refine .inr ⟨hlt, Pv (i + 1), fun H' p' => ⟨n - (i + 1), by omega, rfl, hlt, p'⟩, fun x H' y => ?_⟩
    obtain ⟨e, y⟩ := y
    subst e y
    exact hs i _ hlt p
  · have e : i = n := by omega
    subst e
    exact .inl ⟨Nat.le_refl _, hd H p⟩
/-- over a list that the block leaves as it is -/
theorem lc_list {K : PySem.W.Frag} {a : Addr} {xs : List V} {g : TG} {tt : TT} {te : TE} {vs : List Nat} {σ : St} {H1 : Hp} {D : Addr} {Qd : Hp → Prop} (Pv : Nat → Hp → Prop) (h0 : Pv 0 (upd H1 D (.lst []))) (hl : ∀ i H, i ≤ xs.length → Pv i H → SqL K H a xs)
    (hs : ∀ i x H, xs[i]? = some x → Pv i H → g x (wipe σ vs) H fun σ2 H2 => wipe σ2 vs = wipe σ vs ∧ tt σ2 H2 fun b H3 =>
      if b = true then te σ2 H3 fun y H4 => ∃ acc, H4 D = some (.lst acc) ∧ acc.length < sizeLine ∧ Pv (i + 1) (upd H4 D (.lst (acc ++ [y]))) else Pv (i + 1) H3) (hd : ∀ H, Pv xs.length H → Qd H) :
    ∃ W : Nat → Nat → Hp → Prop, (∃ m, W 0 m (upd H1 D (.lst []))) ∧ ∀ i m H, W i m H →
      ((Itl K a).stop i H ∧ Qd H) ∨ ((Itl K a).go i H ∧ ∃ Nx : Hp → Prop, (∀ H', Nx H' → ∃ m', m' < m ∧ W (i + 1) m' H') ∧ ∀ x H', (Itl K a).yld i H x H' → g x (wipe σ vs) H' fun σ2 H2 => wipe σ2 vs = wipe σ vs ∧ tt σ2 H2 fun b H3 =>
        if b = true then te σ2 H3 fun y H4 => ∃ acc, H4 D = some (.lst acc) ∧ acc.length < sizeLine ∧ Nx (upd H4 D (.lst (acc ++ [y]))) else Nx H3) := by
  refine ⟨fun i m H => m = xs.length - i ∧ i ≤ xs.length ∧ Pv i H, ⟨xs.length, by simp, Nat.zero_le _, h0⟩, ?_⟩
  rintro i m H ⟨rfl, hi, p⟩
  have q := hl i H hi p
  by_cases hlt : i < xs.length
  · refine .inr ⟨⟨xs, xs[i], q, by simp [hlt]⟩, Pv (i + 1), fun H' p' => ⟨xs.length - (i + 1), by omega, rfl, hlt, p'⟩, fun x H' y => ?_⟩
    obtain ⟨e, y⟩ := y
    subst e
    exact hs i x _ (y xs q) p
  · have e : i = xs.length := by omega
    subst e
    exact .inl ⟨⟨xs, q, Nat.le_refl _⟩, hd H p⟩
def blkC (N : List Str) (sc scope : Scope) (own : List (Str × Nat)) : Bool :=
  (match scope.kind with | .function => true | _ => false) && (scope.names.all fun y => decide (scope.names.lookup y.1 = some y.2)) && (own.all fun p => decide (N[p.2]? = some p.1)) &&
    (scope.names.all fun y => match y.2 with
      | .free => (match sc.names.lookup y.1 with | some .cell => true | some .free => true | _ => false)
      | .local => decide (y.1 ∈ own.map (·.1)) || decide (y.1 ∉ N)
      | .cell => decide (y.1 ∈ own.map (·.1)) || decide (y.1 ∉ N)
      | _ => true)
theorem blkOk_by {N : List Str} {sc scope : Scope} {own : List (Str × Nat)} (h : blkC N sc scope own = true) : BlkOk N sc scope own := by
  unfold blkC at h
  simp only [Bool.and_eq_true, List.all_eq_true, decide_eq_true_eq] at h
  obtain ⟨⟨⟨h1, h2⟩, h3⟩, h4⟩ := h
  refine ⟨?_, h2, h3, fun y hy e => ?_, fun y hy e => ?_⟩
  · split at h1
    · assumption
    · cases h1
  · have q := h4 y hy
    simp only [e] at q
    split at q <;> first | exact .inl (by assumption) | exact .inr (by assumption) | cases q
  · have q := h4 y hy
    rcases e with e | e <;> (simp only [e, Bool.or_eq_true, decide_eq_true_eq] at q; exact q)
end L2

namespace L2
open PySem PySem.Spec PyProof.Rows


section
variable {prog : Program} {w : World} {A : Around} {R : Result → Shared → Prop} {s : Shared} {elt t0 i0 t1 i1 : Expr} {ifs0 ifs1 : List Expr} {scope : Scope} {pos : Pos} {it acc : Value} {env : Env}
end

section
variable {X : Cx}
end
end L2

namespace L2
open PySem PySem.Spec PyProof.Rows

/-! ### lists of pairs as tables -/
section
variable {κ : Type} [DecidableEq κ]
def valV (kvs : List (κ × V)) (k : κ) : Option V := (kvs.find? fun kv => decide (kv.1 = k)).map (·.2)
/-- in its place, or at the end -/
def putK (kvs : List (κ × V)) (k : κ) (v : V) : List (κ × V) :=
  if (kvs.any fun kv => decide (kv.1 = k)) = true then kvs.map (fun kv => if kv.1 = k then (kv.1, v) else kv) else kvs ++ [(k, v)]
def dropK (kvs : List (κ × V)) (k : κ) : List (κ × V) := kvs.filter fun kv => decide (kv.1 ≠ k)

theorem valV_pos {p : κ × V} {r : List (κ × V)} {k : κ} (e : p.1 = k) : valV (p :: r) k = some p.2 := by simp [valV, List.find?_cons, e]
theorem valV_neg {p : κ × V} {r : List (κ × V)} {k : κ} (e : ¬ p.1 = k) : valV (p :: r) k = valV r k := by simp [valV, List.find?_cons, e]
theorem valV_any (k : κ) : ∀ kvs : List (κ × V), (kvs.any fun kv => decide (kv.1 = k)) = (valV kvs k).isSome
  | [] => rfl
  | p :: r => by
    rw [List.any_cons]
    by_cases e : p.1 = k
    · simp only [valV_pos e, decide_eq_true e, Bool.true_or, Option.isSome_some]
    · rw [valV_neg e, decide_eq_false e, Bool.false_or]; exact valV_any k r

theorem RelO.isSome_eq {o : Option V} {u : Option Value} (r : RelO o u) : o.isSome = u.isSome := by
  cases o with
  | none => cases u with
    | none => rfl
    | some _ => exact (show False from r).elim
  | some _ => cases u with
    | none => exact (show False from r).elim
    | some _ => rfl
theorem RelO.getD {o : Option V} {u : Option Value} {d : V} {d' : Value} (r : RelO o u) (rd : RelV d d') : RelV (o.getD d) (u.getD d') := by
  cases o with
  | none => cases u with
    | none => exact rd
    | some _ => exact (show False from r).elim
  | some _ => cases u with
    | none => exact (show False from r).elim
    | some _ => exact r

/-- raw tables of the same keys -/
theorem KV.val {kvs : List (κ × V)} {vs : List (κ × Value)} (r : KV kvs vs) (k : κ) : RelO (valV kvs k) (valueAt vs k) := by
  unfold KV at r
  induction r with
  | nil => exact True.intro
  | @cons p q ps qs h t ih =>
    obtain ⟨h1, h2⟩ := h
    by_cases e : p.1 = k
    · have e' : q.1 = k := h1.symm.trans e
      have b : valueAt (q :: qs) k = some q.2 := by simp [valueAt, List.find?_cons, e']
      rw [valV_pos e, b]; exact h2
    · have e' : ¬ q.1 = k := fun z => e (h1.trans z)
      have b : valueAt (q :: qs) k = valueAt qs k := by simp [valueAt, List.find?_cons, e']
      rw [valV_neg e, b]; exact ih
theorem KV.any {kvs : List (κ × V)} {vs : List (κ × Value)} (r : KV kvs vs) (k : κ) : (kvs.any fun kv => decide (kv.1 = k)) = vs.any fun kv => decide (kv.1 = k) := by
  unfold KV at r
  induction r with
  | nil => rfl
  | cons h t ih => rw [List.any_cons, List.any_cons, ih, h.1]
theorem KV.repl {kvs : List (κ × V)} {vs : List (κ × Value)} (r : KV kvs vs) (k : κ) {y : V} {u : Value} (ry : RelV y u) :
    KV (kvs.map fun kv => if kv.1 = k then (kv.1, y) else kv) (vs.map fun kv => if kv.1 = k then (kv.1, u) else kv) := by
  unfold KV at r ⊢
  induction r with
  | nil => exact .nil
  | @cons p q ps qs h t ih =>
    rw [List.map_cons, List.map_cons]
    refine .cons ?_ ih
    obtain ⟨h1, h2⟩ := h
    by_cases e : p.1 = k
    · rw [if_pos e, if_pos (h1.symm.trans e)]; exact ⟨h1, ry⟩
    · rw [if_neg e, if_neg (fun z => e (h1.trans z))]; exact ⟨h1, h2⟩
theorem KV.put {kvs : List (κ × V)} {vs : List (κ × Value)} (r : KV kvs vs) (k : κ) {y : V} {u : Value} (ry : RelV y u) : KV (putK kvs k y) (stored vs k u) := by
  unfold putK stored
  rw [r.any k]
  by_cases e : (vs.any fun kv => decide (kv.1 = k)) = true
  · rw [if_pos e, if_pos e]; exact r.repl k ry
  · rw [if_neg e, if_neg e]; exact Paired.snoc r ⟨rfl, ry⟩
theorem KV.drop {kvs : List (κ × V)} {vs : List (κ × Value)} (r : KV kvs vs) (k : κ) : KV (dropK kvs k) (without vs k) := by
  unfold KV at r ⊢
  unfold dropK without
  induction r with
  | nil => exact .nil
  | @cons p q ps qs h t ih =>
    obtain ⟨h1, h2⟩ := h
    rw [List.filter_cons, List.filter_cons]
    by_cases e : p.1 = k
    · have a : ¬ decide (p.1 ≠ k) = true := by simp [e]
      have b : ¬ decide (q.1 ≠ k) = true := by simp [h1.symm.trans e]
      rw [if_neg a, if_neg b]; exact ih
    · have e' : ¬ q.1 = k := fun z => e (h1.trans z)
      have a : decide (p.1 ≠ k) = true := by simp [e]
      have b : decide (q.1 ≠ k) = true := by simp [e']
      rw [if_pos a, if_pos b]; exact .cons ⟨h1, h2⟩ ih
theorem KV.length {kvs : List (κ × V)} {vs : List (κ × Value)} (r : KV kvs vs) : kvs.length = vs.length := Paired.length r
end


/-! ### a tracked dict, its keys ints and texts or tuples of these -/

/-- raw entries of a dict with tuple keys -/
abbrev KT (H : Hp) : List (List Key × V) → List (List Key × Addr × Value) → Prop := Paired fun p q => p.1 = q.1 ∧ H q.2.1 = some (.tup (p.1.map kV)) ∧ RelV p.2 q.2.2
theorem KT.val {H : Hp} {kvs : List (List Key × V)} {xs : List (List Key × Addr × Value)} (r : KT H kvs xs) (k : List Key) : RelO (valV kvs k) ((atKey xs k).map (·.2)) := by
  induction r with
  | nil => exact True.intro
  | @cons p q ps qs h t ih =>
    obtain ⟨h1, _, h2⟩ := h
    by_cases e : p.1 = k
    · have e' : q.1 = k := h1.symm.trans e
      have b : atKey (q :: qs) k = some q.2 := by simp [atKey, List.find?_cons, e']
      rw [valV_pos e, b]; exact h2
    · have e' : ¬ q.1 = k := fun z => e (h1.trans z)
      have b : atKey (q :: qs) k = atKey qs k := by simp [atKey, List.find?_cons, e']
      rw [valV_neg e, b]; exact ih
theorem KT.repl {H : Hp} {kvs : List (List Key × V)} {xs : List (List Key × Addr × Value)} (r : KT H kvs xs) (k : List Key) {y : V} {u : Value} (ry : RelV y u) :
    KT H (kvs.map fun kv => if kv.1 = k then (kv.1, y) else kv) (xs.map (putAt k u)) := by
  induction r with
  | nil => exact .nil
  | @cons p q ps qs h t ih =>
    rw [List.map_cons, List.map_cons]
    refine .cons ?_ ih
    obtain ⟨h1, h2, h3⟩ := h
    unfold putAt
    by_cases e : p.1 = k
    · rw [if_pos e, if_pos (h1.symm.trans e)]; exact ⟨h1, h2, ry⟩
    · rw [if_neg e, if_neg (fun z => e (h1.trans z))]; exact ⟨h1, h2, h3⟩
theorem KT.put {H : Hp} {kvs : List (List Key × V)} {xs : List (List Key × Addr × Value)} (r : KT H kvs xs) (k : List Key) {b : Addr} {y : V} {u : Value} (hb : H b = some (.tup (k.map kV))) (ry : RelV y u) :
    KT H (putK kvs k y) (storedH xs k b u) := by
  have e : (kvs.any fun kv => decide (kv.1 = k)) = (atKey xs k).isSome := by
    rw [valV_any, (r.val k).isSome_eq, Option.isSome_map]
  unfold putK storedH
  rw [e]
  by_cases q : (atKey xs k).isSome = true
  · rw [if_pos q, if_pos q]; exact r.repl k ry
  · rw [if_neg q, if_neg q]; exact Paired.snoc r ⟨rfl, hb, ry⟩
theorem KT.keeps {H H' : Hp} {kvs : List (List Key × V)} {xs : List (List Key × Addr × Value)} (r : KT H kvs xs) (ht : ∀ b ys, H b = some (.tup ys) → H' b = some (.tup ys)) : KT H' kvs xs :=
  Paired.mapP r fun _ _ z => ⟨z.1, ht _ _ z.2.1, z.2.2⟩

section
variable {P : Program} {w : World} {H : Hp} {h : Heap} {a : Addr}
end

/-- what the dict at a holds at the key y -/
def DGet (H : Hp) (a : Addr) (y : V) (r : Option V) : Prop :=
  (∃ kvs k, Rd H a (.dK kvs) ∧ y = kV k ∧ r = valV kvs k) ∨ ∃ kvs k b, Rd H a (.dT kvs) ∧ y = .ref b ∧ H b = some (.tup (k.map kV)) ∧ r = valV kvs k
/-- the heap behind a[y] = v -/
def DPut (H : Hp) (a : Addr) (y v : V) (H' : Hp) : Prop :=
  (∃ kvs k, H a = some (.dK kvs) ∧ y = kV k ∧ kvs.length < sizeLine ∧ H' = upd H a (.dK (putK kvs k v))) ∨
  ∃ kvs k b, H a = some (.dT kvs) ∧ y = .ref b ∧ H b = some (.tup (k.map kV)) ∧ kvs.length < sizeLine ∧ H' = upd H a (.dT (putK kvs k v))
theorem DGet.k {H : Hp} {a : Addr} {kvs : List (Key × V)} {k : Key} (e : H a = some (.dK kvs)) : DGet H a (kV k) (valV kvs k) := .inl ⟨kvs, k, .inl e, rfl, rfl⟩
theorem DGet.t {H : Hp} {a b : Addr} {kvs : List (List Key × V)} {k : List Key} (e : H a = some (.dT kvs)) (eb : H b = some (.tup (k.map kV))) : DGet H a (.ref b) (valV kvs k) := .inr ⟨kvs, k, b, .inl e, rfl, eb, rfl⟩
theorem DPut.k {H : Hp} {a : Addr} {kvs : List (Key × V)} {k : Key} {v : V} (e : H a = some (.dK kvs)) (hl : kvs.length < sizeLine) : DPut H a (kV k) v (upd H a (.dK (putK kvs k v))) := .inl ⟨kvs, k, e, rfl, hl, rfl⟩
theorem DPut.t {H : Hp} {a b : Addr} {kvs : List (List Key × V)} {k : List Key} {v : V} (e : H a = some (.dT kvs)) (eb : H b = some (.tup (k.map kV))) (hl : kvs.length < sizeLine) :
    DPut H a (.ref b) v (upd H a (.dT (putK kvs k v))) := .inr ⟨kvs, k, b, e, rfl, eb, hl, rfl⟩


section
variable {X : Cx} {pins : List (Addr × Obj)} {σ : St} {H : Hp} {s : Shared} {a : Addr} {y v : V} {u r : Value} {o : Option V} {A : Around} {E : Value → Shared → Prop}


end

section
variable {X : Cx} {pins : List (Addr × Obj)} {σ : St} {H : Hp} {s : Shared} {a : Addr} {kvs : List (Key × V)} {k : Key} {u : Value} {A : Around} {E : Value → Shared → Prop}
end


/-! ### readings and rules -/



section
variable {X : Cx} {o i e value : Expr} {pos pos' tpos : Pos} {td ty tv : TE}
end


/-! ### displays -/
section
variable {X : Cx} {pos : Pos}
end




/-! ### methods -/
/-- a method call o.m(e) of a built-in, with one argument: what must be seen of the text -/
structure M1 (X : Cx) (o : Expr) (m : Str) (apos : Pos) (e : Expr) (cpos : Pos) : Prop where
  base : attributeBase o m X.env (eval o X.env) = eval o X.env
  few : ((backTo cpos (starEach [e] X.env)).all (fun x => !x.1) && (backToKw cpos (keywordEach [] X.env)).all (fun x => x.1.isSome)
    && decide (([e] : List Expr).length + ([] : List Keyword).length + (if ([] : List Keyword).isEmpty then 0 else 1) < 30)) = true
  line : (apos.endLine == cpos.line) = true
  trees : backTo cpos (starEach [e] X.env) = [(false, eval e X.env)]
structure M2 (X : Cx) (o : Expr) (m : Str) (apos : Pos) (e f : Expr) (cpos : Pos) : Prop where
  base : attributeBase o m X.env (eval o X.env) = eval o X.env
  few : ((backTo cpos (starEach [e, f] X.env)).all (fun x => !x.1) && (backToKw cpos (keywordEach [] X.env)).all (fun x => x.1.isSome)
    && decide (([e, f] : List Expr).length + ([] : List Keyword).length + (if ([] : List Keyword).isEmpty then 0 else 1) < 30)) = true
  line : (apos.endLine == cpos.line) = true
  trees : backTo cpos (starEach [e, f] X.env) = [(false, eval e X.env), (false, eval f X.env)]


section
variable {X : Cx} {pins : List (Addr × Obj)} {σ : St} {H : Hp} {s : Shared} {a : Addr} {y d : V} {u r : Value} {o : Option V} {A : Around} {E : Value → Shared → Prop}
end

section
variable {X : Cx} {o e f : Expr} {apos cpos : Pos} {td ty tx : TE}
end

/-! ### dict(d): a copy -/
section
variable {X : Cx} {pins : List (Addr × Obj)} {σ : St} {H : Hp} {s : Shared} {a : Addr} {kvs : List (Key × V)} {A : Around} {E : Value → Shared → Prop}
end


section
variable {X : Cx} {pins : List (Addr × Obj)} {σ : St} {H : Hp} {s : Shared} {a : Addr} {y : V} {u : Value} {A : Around} {E : Value → Shared → Prop}
end
end L2

namespace L2
open PySem PySem.Spec PyProof.Rows


section
variable {prog : Program} {w : World} {A : Around} {E : Value → Shared → Prop}


end

section
variable {X : Cx}
end
end L2

namespace L2
open PySem PySem.Spec PyProof.Rows

theorem boot_reversed5 : bootBuiltins "reversed" = some (.type "reversed") := by decide +kernel

section
variable {X : Cx} {pins : List (Addr × Obj)} {σ : St} {H : Hp} {s : Shared} {h' : Heap}
/-- .. and one new object is laid -/
theorem Inv.turnedNew {t' : Nat} {ch : List Addr} {T : Addr} {ob : HO} (I : Inv X pins σ H s) (k : ∀ b o, b ∉ ch → s.heap.get? b = some o → h'.get? b = some o) (hf : ∀ b ∈ ch, FpOk X pins H b) (hT : s.heap.objs.size ≤ T)
    (new : ObjOk X.prog X.w (upd H T ob) h' T ob) : Inv X pins σ (upd H T ob) { s with heap := h', toks := t' } := by
  have hn : H T = none := I.hok.fresh hT
  have nit : ∀ b u, H b = some u → b ∉ ch := fun b u e z => by
    have q := (hf b z).1
    rw [q] at e; cases e
  refine I.step (g' := s.gens) (d' := s.drawn) (ch := ch) (fun b hb => ⟨(hf b hb).2.2.2.1, (hf b hb).2.1, (hf b hb).2.2.2.2.1, (hf b hb).2.2.2.2.2⟩) (fun b o _ _ hc e _ => k b o hc e) (fun b o _ _ hc e _ => ⟨o.slots, k b o hc e⟩)
    (fun b o _ e n => ?_) (fun b o hc e => ⟨o, k b o hc e⟩) (fun b xs e => ?_) (fun b o u e => ?_) (fun b ps e => ⟨#[], ?_⟩) (fun m hm => ?_) (fun b u e => ?_) I.bare
  · rw [upd_ne (Nat.ne_of_lt (Nat.lt_of_lt_of_le (Heap.lt_size e) hT))]; exact n
  · rw [upd_ne (ne_of_none e hn)]; exact e
  · rw [upd_ne (ne_of_none e hn)]; exact e
  · rw [upd_ne (ne_of_none e hn), e]; simp
  · obtain ⟨o, es, ep, ho, r⟩ := hm
    exact ⟨o, es, ep, k _ o (fun z => (hf _ z).2.1 rfl) ho, r⟩
  · by_cases hb : b = T
    · subst hb
      rw [upd_same] at e
      cases e
      exact new
    · rw [upd_ne hb] at e
      refine (I.hok b u e).stay (fun c v hc q => k c v ?_ q) (fun c q => by rw [upd_ne (ne_of_none q hn)]; exact q) fun c xs q => by rw [upd_ne (ne_of_none q hn)]; exact q
      rcases hc with z | z
      · rw [z]; exact nit b u e
      · exact nit c _ z

/-! ### locking a thing while a statement runs -/
theorem Inv.lock {d : Addr} {u : HO} (I : Inv X pins σ H s) (h : H d = some u) (mu : Mut (some u)) : ∃ od, Inv X pins σ (upd H d (.frz od u)) s := by
  have x := I.hok d u h
  have ex : ∃ od, s.heap.get? d = some od := by
    cases u with
    | lst xs => obtain ⟨_, _, _, _, e⟩ := x; exact ⟨_, e⟩
    | dK kvs => obtain ⟨_, _, _, _, o, _, _, e, _⟩ := x; exact ⟨o, e⟩
    | dT kvs => obtain ⟨_, _, _, _, o, _, _, e, _⟩ := x; exact ⟨o, e⟩
    | set S n => obtain ⟨o, _, _, _, e, _⟩ := x; exact ⟨o, e⟩
    | ins C dx fs => obtain ⟨_, _, _, e, _⟩ := x; exact ⟨_, e⟩
    | ext φ => obtain ⟨_, ⟨_, e⟩, _⟩ := x; exact ⟨_, e⟩
    | _ => exact False.elim mu
  obtain ⟨od, e⟩ := ex
  have new : ObjOk X.prog X.w (upd H d (.frz od u)) s.heap d (.frz od u) := by
    refine ⟨e, x.stay (fun b v _ q => q) (fun b q => ?_) fun b xs q => ?_⟩
    · rw [upd_ne (fun z => by rw [z, h] at q; cases q; exact mu)]; exact q
    · rw [upd_ne (fun z => by rw [z, h] at q; cases q; exact mu)]; exact q
  exact ⟨od, I.write (x := d) (e := d) (t' := s.toks) (h' := s.heap) (by rw [h]; exact mu) (.inl rfl) (fun b v _ q => q) ⟨od, e⟩ new⟩
theorem Inv.nofrz {d : Addr} {u : HO} (I : Inv X pins σ H s) (h : H d = some u) (mu : Mut (some u)) : ∀ o' u', X.H_0 d ≠ some (.frz o' u') := fun o' u' e => by
  have q := I.base.frzs d o' u' e
  rw [h] at q
  cases q
  exact mu
theorem Inv.unlock {d : Addr} {od : Obj} {u : HO} (I : Inv X pins σ H s) (h : H d = some (.frz od u)) (hn : ∀ o' u', X.H_0 d ≠ some (.frz o' u')) : Inv X pins σ (upd H d u) s := by
  have neH : ∀ b o, H b = some o → (∀ o' u', o ≠ .frz o' u') → b ≠ d := fun b o e hne z => by
    rw [z, h] at e
    cases e
    exact hne _ _ rfl
  have neN : ∀ b, H b = none → b ≠ d := fun b e z => by rw [z, h] at e; cases e
  refine ⟨I.ok, I.os, I.bare, ⟨I.base.keep, I.base.slot, fun b o e n hx => ?_, I.base.there, fun b xs e => ?_, fun b o x e => ?_, fun b ps e => ?_⟩, I.loc, I.cell, ?_, fun x c e => ?_, fun p hp => ?_, fun b o e => ?_, I.len⟩
  · rw [upd_ne (neN b (I.base.free b o e n hx))]; exact I.base.free b o e n hx
  · have q := I.base.tups b xs e
    rw [upd_ne (neH b _ q (fun _ _ z => nomatch z))]; exact q
  · have q := I.base.frzs b o x e
    rw [upd_ne (fun z => by rw [z] at e; exact hn _ _ e)]; exact q
  · obtain ⟨m, q⟩ := I.base.tbls b ps e
    exact ⟨m, by rw [upd_ne (neH b _ q (fun _ _ z => nomatch z))]; exact q⟩
  · rw [upd_ne (neN _ I.free)]; exact I.free
  · rw [upd_ne (neN c (I.freeC x c e))]; exact I.freeC x c e
  · obtain ⟨e, n, r⟩ := I.pin p hp
    exact ⟨e, by rw [upd_ne (neN _ n)]; exact n, r⟩
  · by_cases hb : b = d
    · rw [hb, upd_same] at e
      cases e
      rw [hb]
      obtain ⟨_, x⟩ := I.hok d _ h
      exact x.stay (fun c v _ q => q) (fun c q => by rw [upd_ne (neH c _ q (fun _ _ z => nomatch z))]; exact q) fun c xs q => by rw [upd_ne (neH c _ q (fun _ _ z => nomatch z))]; exact q
    · rw [upd_ne hb] at e
      exact (I.hok b o e).stay (fun c v _ q => q) (fun c q => by rw [upd_ne (neH c _ q (fun _ _ z => nomatch z))]; exact q) fun c xs q => by rw [upd_ne (neH c _ q (fun _ _ z => nomatch z))]; exact q
end
def tLockE (t : TE) : TE := fun σ H Q => ∃ d u, H d = some u ∧ Mut (some u) ∧ ∀ od, t σ (upd H d (.frz od u)) fun v H' => H' d = some (.frz od u) ∧ Q v (upd H' d u)
section
variable {X : Cx}
theorem pe_lock {e : Expr} {t : TE} (h : PE X e t) : PE X e (tLockE t) := by
  intro pins s σ H Q I hw
  obtain ⟨d, u, hd, mu, hw⟩ := hw
  obtain ⟨od, I1⟩ := I.lock hd mu
  refine thn (h pins s σ _ _ I1 (hw od)) fun v s1 ⟨x, H1, I2, r, e2, q⟩ => ?_
  exact ⟨x, _, I2.unlock e2 (I.nofrz hd mu), r, q⟩

/-! ### one iterator just laid -/
theorem pi_one {tg : Expr} {pins : List (Addr × Obj)} {σ : St} {H : Hp} {s : Shared} {R : It → Hp → Prop} {J : It} {tn : Nat → Heap → Prop} {tk : Nat} (I : Inv X pins σ H s) (o : Obj)
    (T : Turn X.prog X.w X.K tg J [s.heap.objs.size] s.heap.objs.size tn) (st : tn 0 (s.heap.push o)) (q : R J H) : PIE X pins σ tg R (.ref s.heap.objs.size) { s with heap := s.heap.push o, toks := tk } := by
  refine ⟨s.heap.objs.size, [s.heap.objs.size], tn, J, H, rfl, I.kept fun b ob e => Heap.get?_push_of_some _ e, T, st, fun b hb => ?_, q⟩
  have e : b = s.heap.objs.size := by simpa using hb
  subst e
  exact I.fpOk (Nat.le_refl _) (I.hok.fresh (Nat.le_refl _))
end

/-! ### range with a step -/
/-- lo, lo + c, .. (n of them) -/
def Itc (lo c : Int) (n : Nat) : It := ⟨fun i _ => i < n, fun i H x H' => H' = H ∧ x = .int (lo + (i : Nat) * c), fun i _ => n ≤ i⟩
theorem turn_rangeC {P : Program} {w : World} {K : PySem.W.Frag} {tg : Expr} (it : Addr) (lo c : Int) (n : Nat) : Turn P w K tg (Itc lo c n) [it] it (fun i h => IsRangeIter h it (lo + (i : Nat) * c) ((n : Int) - (i : Nat)) c) where
  mem := by simp
  obj := fun i h st b hb => by
    have e : b = it := by simpa using hb
    subst e
    exact ⟨_, st, fun v z => nomatch z⟩
  keep := fun i h h' st k => k it (by simp) _ st
  item := by
    intro X hP hw hK hc i pins s σ H E I hf st hg
    subst hP hw hK
    obtain ⟨f0, f1, f2, f3, f4, f5⟩ := hf it (by simp)
    have W := Walks.range (prog := X.prog) (w := X.w) (I.ok.hd hc) it lo c n
    refine W.item i s _ _ hg st fun v h' tk hv st' kk => ?_
    obtain ⟨t, rfl⟩ := hv
    have I1 : Inv X pins σ H { s with heap := h', toks := tk } := I.turned (fun b o hb e => kk b o (by simpa using hb) e) f0 f1 f3 f4 f5
    exact ⟨_, rfl, go_of (s := { s with heap := h', toks := tk }) (n := "range_iterator") st' rfl rfl (by decide) ⟨.int (lo + (i : Nat) * c), H, I1, ⟨t, rfl⟩, ⟨rfl, rfl⟩, st', fun b hb => (hf b hb).1⟩⟩
  done := by
    intro X hP hw hK hc i pins s σ H E I hf st hg
    subst hP hw hK
    obtain ⟨f0, f1, f2, f3, f4, f5⟩ := hf it (by simp)
    exact wpAny_pyNext_range_end (I.ok.hd hc) st (by have : n ≤ i := hg; omega) fun h' eb => ⟨rfl, I.turned (t' := s.toks) (fun b o hb e => eb b o hb e) f0 f1 f3 f4 f5⟩
  self := fun A i s Q E st h => wpAny_pyIter_rangeiter st h
/-- range(i, j, c): small bounds, n items -/
def RgC (i j c : Int) (n : Nat) : Prop := c ≠ 0 ∧ c.natAbs < 1073741824 ∧ Builtin.Range.small i j c = true ∧ Builtin.Range.rangeSize i j c = n
theorem RgC.neg {i j : Int} (ha : -(2 ^ 62) ≤ i) (ha' : i < 2 ^ 62) (hb : -(2 ^ 62) ≤ j) (hb' : j < 2 ^ 62) : RgC i j (-1) (i - j).toNat :=
  ⟨by decide, by decide, PySem.W.small_down ha ha' hb hb', PySem.W.rangeSize_downNat i j⟩
def iRng3 (ta : TA) : TI := fun σ H R => ta σ H fun vs H1 => ∃ (i j c : Int) (n : Nat), vs = [.int i, .int j, .int c] ∧ RgC i j c n ∧ R (Itc i c n) H1
section
variable {X : Cx} {tg : Expr}
theorem pi_range3 {a b c : Expr} {ta : TA} {p pos : Pos} (hg : Gl X "range") (hm : X.mg "range" = none) (ha : PA X [a, b, c] ta)
    (hs : starEach [a, b, c] X.env = (false, eval a X.env) :: starEach [b, c] X.env := by rfl) (hpl : (backTo pos (starEach [b, c] X.env)).any (·.1) = false := by rfl) :
    PI X tg (.Call (.Name "range" p) [a, b, c] [] pos) (iRng3 ta) := by
  intro pins s σ H R I h
  refine Call_ (ld_blt I hg hm boot_range (PyProof.Rows.callWith_type1 (thn (ha pos pins s σ H _ I h) fun us s1 ⟨vs, H1, I1, r1, q1⟩ => ?_) hs hpl))
  obtain ⟨i, j, k, n, e, ⟨c0, c1, c2, c3⟩, q⟩ := q1
  subst e
  cases r1 with
  | cons r rr =>
    cases rr with
    | cons r' rr =>
      cases rr with
      | cons r'' rr =>
        cases rr
        obtain ⟨t, rfl⟩ := r
        obtain ⟨t', rfl⟩ := r'
        obtain ⟨t'', rfl⟩ := r''
        refine call_range_3 c0 ?_ (.inl (PyProof.noPylong_small c1))
        refine wpAny_pyIter_range (IsRange.new ..) c2 ?_
        have I2 : Inv X pins σ H1 { s1 with heap := s1.heap.push { cls := .type "range", data := .fields #[.int i t, .int j t', .int k t''] } } := I1.kept (t' := s1.toks) fun b o e => Heap.get?_push_of_some _ e
        refine pi_one (tk := s1.toks) I2 _ (turn_rangeC _ i k n) ?_ q
        have e1 : i + ((0 : Nat) : Int) * k = i := by simp
        have e2 : (n : Int) - ((0 : Nat) : Int) = Builtin.Range.rangeSize i j k := by rw [c3]; simp
        show IsRangeIter _ _ (i + ((0 : Nat) : Int) * k) ((n : Int) - ((0 : Nat) : Int)) k
        rw [e1, e2]
        exact Heap.get?_push_size _ rfl
end
/-- the turns of a step range, for the for loop -/
theorem for_rangeC {lo c : Int} {n : Nat} {g : TG} {tb : TS} {D : Ends} {σ : St} {H : Hp} (Pv : Nat → St → Hp → Prop) (h0 : Pv 0 σ H)
    (hs : ∀ i σ H, i < n → Pv i σ H → g (.int (lo + (i : Nat) * c)) σ H fun σ2 H2 => tb { D with nx := Pv (i + 1), ct := Pv (i + 1), bk := D.nx } σ2 H2) (hd : ∀ σ H, Pv n σ H → D.nx σ H) :
    ∃ W : Nat → Nat → St → Hp → Prop, (∃ m, W 0 m σ H) ∧ ∀ i m σ H, W i m σ H →
      ((Itc lo c n).stop i H ∧ D.nx σ H) ∨ ((Itc lo c n).go i H ∧ ∃ N : St → Hp → Prop, (∀ σ' H', N σ' H' → ∃ m', m' < m ∧ W (i + 1) m' σ' H') ∧ ∀ x H', (Itc lo c n).yld i H x H' → g x σ H' fun σ2 H2 => tb { D with nx := N, ct := N, bk := D.nx } σ2 H2) := by
  refine ⟨fun i m σ H => m = n - i ∧ i ≤ n ∧ Pv i σ H, ⟨n, by simp, Nat.zero_le _, h0⟩, ?_⟩
  rintro i m σ H ⟨rfl, hi, p⟩
  by_cases hlt : i < n
  · refine .inr ⟨hlt, Pv (i + 1), fun σ' H' p' => ⟨n - (i + 1), by omega, rfl, hlt, p'⟩, fun x H' y => ?_⟩
    obtain ⟨e, y⟩ := y
    subst e y
    exact hs i σ _ hlt p
  · have e : i = n := by omega
    subst e
    exact .inl ⟨Nat.le_refl _, hd σ H p⟩

/-! ### reversed(list) -/
/-- the list at a (n items at the start, which the loop leaves there), from its end -/
def Itv (K : PySem.W.Frag) (a : Addr) (n : Nat) : It :=
  ⟨fun i H => i < n ∧ ∃ (xs : List V) (x : V), SqL K H a xs ∧ xs[n - 1 - i]? = some x, fun i H x H' => H' = H ∧ ∀ xs, SqL K H a xs → xs[n - 1 - i]? = some x, fun i _ => n ≤ i⟩
theorem turn_rev {P : Program} {w : World} {K : PySem.W.Frag} {tg : Expr} (a it : Addr) (n : Nat) : Turn P w K tg (Itv K a n) [it] it (fun i h => i ≤ n ∧ h.IsRevIter it a ((n : Int) - 1 - (i : Nat))) where
  mem := by simp
  obj := fun i h st b hb => by
    have e : b = it := by simpa using hb
    subst e
    obtain ⟨_, o, e, c, d⟩ := st
    exact ⟨o, e, fun v z => by rw [d] at z; cases z⟩
  keep := fun i h h' st k => ⟨st.1, st.2.at fun o e => k it (by simp) o e⟩
  item := by
    intro X hP hw hK hc i pins s σ H E I hf st hg
    subst hP hw hK
    obtain ⟨hin, xs, x, hq, hx⟩ := hg
    obtain ⟨its, rv, p, hz⟩ := I.list hq
    obtain ⟨u, hu, ru⟩ := rv.get hx
    obtain ⟨f0, f1, f2, f3, f4, f5⟩ := hf it (by simp)
    obtain ⟨_, hit⟩ := st
    have e1 : (n : Int) - 1 - ((i : Nat) : Int) = ((n - 1 - i : Nat) : Int) := by omega
    rw [e1] at hit
    refine wpAny_pyNext_rev_item hit p.isList (x := u) (by simpa using hu) fun h' st' sb => ?_
    have e2 : ((n - 1 - i : Nat) : Int) - 1 = (n : Int) - 1 - ((i + 1 : Nat) : Int) := by omega
    rw [e2] at st'
    have I1 : Inv X pins σ H { s with heap := h' } := I.turned (t' := s.toks) (fun b o hb e => (sb.2 b hb).trans e) f0 f1 f3 f4 f5
    obtain ⟨o, e, c, d⟩ := id st'
    exact ⟨u, rfl, go_of (s := { s with heap := h' }) e c d (by decide) ⟨x, H, I1, ru, ⟨rfl, fun ys hy => by rw [I.list_inj hy hq]; exact hx⟩, ⟨hin, st'⟩, fun b hb => (hf b hb).1⟩⟩
  done := by
    intro X hP hw hK hc i pins s σ H E I hf st hg
    subst hP hw hK
    obtain ⟨f0, f1, f2, f3, f4, f5⟩ := hf it (by simp)
    obtain ⟨hin, hit⟩ := st
    have hge : n ≤ i := hg
    have e1 : (n : Int) - 1 - ((i : Nat) : Int) = -1 := by omega
    rw [e1] at hit
    exact wpAny_pyNext_rev_end (I.ok.hd hc) hit fun h' eb => ⟨rfl, I.turned (t' := s.toks) (fun b o hb e => eb b o hb e) f0 f1 f3 f4 f5⟩
  self := fun A i s Q E st h => wpAny_pyIter_revIter st.2 h
def iRev (K : PySem.W.Frag) (ta : TA) : TI := fun σ H R => ta σ H fun vs H1 => ∃ (a : Addr) (xs : List V), vs = [.ref a] ∧ SqL K H1 a xs ∧ R (Itv K a xs.length) H1
section
variable {X : Cx} {tg : Expr}
theorem pi_reversed {e : Expr} {ta : TA} {p pos : Pos} (hg : Gl X "reversed") (hm : X.mg "reversed" = none) (ha : PA X [e] ta) (hs : starEach [e] X.env = [(false, eval e X.env)] := by rfl) : PI X tg (.Call (.Name "reversed" p) [e] [] pos) (iRev X.K ta) := by
  intro pins s σ H R I h
  refine Call_ (ld_blt I hg hm boot_reversed5 (PyProof.Rows.callWith_type1 (thn (ha pos pins s σ H _ I h) fun us s1 ⟨vs, H1, I1, r1, q1⟩ => ?_) hs rfl))
  obtain ⟨a, xs, e, hq, q⟩ := q1
  subst e
  cases r1 with
  | cons r rr =>
    cases rr
    cases r
    obtain ⟨its, rv, p', hz⟩ := I1.list hq
    have hl := rv.length
    have e1 : ((its.toArray.size : Nat) : Int) - 1 = (xs.length : Int) - 1 - ((0 : Nat) : Int) := by simp only [List.size_toArray]; omega
    refine call_reversed_list p'.isList (wpAny_pyIter_revIter (l := a) (i := ((its.toArray.size : Nat) : Int) - 1) ⟨_, Heap.get?_push_size _ rfl, rfl, rfl⟩ ?_)
    refine pi_one (tk := s1.toks) I1 _ (turn_rev a _ xs.length) ⟨Nat.zero_le _, ?_⟩ q
    rw [← e1]
    exact ⟨_, Heap.get?_push_size _ rfl, rfl, rfl⟩
end

/-! ### a str -/

/-! ### a dict's keys: any dict's entries -/
section
variable {prog : Program} {w : World} {A : Around} {E : Value → Shared → Prop} {s : Shared}
end

/-! ### a locked dict -/
section
variable {X : Cx} {pins : List (Addr × Obj)} {σ : St} {H : Hp} {s : Shared} {d : Addr} {o : Obj}
end

section
variable {P : Program} {w : World} {K : PySem.W.Frag} {tg : Expr} {d : Addr} {o : Obj} {es : Array DictEntry} {ep : Nat}
end

/-! ### for k in d, d.keys(), d.values(), d.items() -/
section
variable {X : Cx} {tg e : Expr} {td : TE} {apos cpos : Pos}
end

/-! ### enumerate(list) -/
/-- the list at a as it stands at each turn, each item in a new pair -/
def Ite (K : PySem.W.Frag) (a : Addr) : It :=
  ⟨fun i H => ∃ (xs : List V) (x : V), SqL K H a xs ∧ xs[i]? = some x, fun i H v H' => ∃ T x, v = .ref T ∧ H T = none ∧ H' = upd H T (.tup [.int (i : Nat), x]) ∧ ∀ xs, SqL K H a xs → xs[i]? = some x, fun i H => ∃ xs : List V, SqL K H a xs ∧ xs.length ≤ i⟩
theorem turn_enum {P : Program} {w : World} {K : PySem.W.Frag} {elts : List Expr} {kk : Nat} {tpos : Pos} (a e it : Addr) :
    Turn P w K (.Tuple elts kk tpos) (Ite K a) [e, it] e (fun i h => (∃ old, IsEnum h e it ((i : Nat) : Int) old) ∧ h.IsListIter it a i ∧ e ≠ it) where
  mem := by simp
  obj := fun i h st b hb => by
    obtain ⟨⟨old, he⟩, ⟨o, ho, hc, hd⟩, _⟩ := st
    have e' : b = e ∨ b = it := by simpa using hb
    rcases e' with z | z
    · rw [z]; exact ⟨_, he, fun v q => nomatch q⟩
    · rw [z]; exact ⟨o, ho, fun v q => by rw [hd] at q; cases q⟩
  keep := fun i h h' st k => let ⟨⟨old, he⟩, hi, hne⟩ := st; ⟨⟨old, k e (by simp) _ he⟩, hi.at fun o q => k it (by simp) o q, hne⟩
  item := by
    intro X hP hw hK hc i pins s σ H E I hf st hg
    subst hP hw hK
    obtain ⟨⟨old, he⟩, hit, hne⟩ := st
    obtain ⟨xs, x, hq, hx⟩ := hg
    obtain ⟨its, rv, p, hz⟩ := I.list hq
    obtain ⟨u, hu, ru⟩ := rv.get hx
    have hel : e < s.heap.objs.size := Heap.lt_size he
    have hil : it < s.heap.objs.size := by obtain ⟨_, q, _⟩ := hit; exact Heap.lt_size q
    refine wpAny_pyNext_enum_item he hit p.isList (x := u) (by simpa using hu) hne fun h' ho hit' hT hsz hk => ?_
    refine ⟨_, rfl, wpAny_letOwnedTupleGo_enum (s := { s with heap := h', toks := s.toks + 1 }) ho fun h'' he' sb => ?_⟩
    have hT2 : h''.get? s.heap.objs.size = some { cls := .type "tuple", data := .seq #[.int i s.toks, u] } := (sb.2 _ (Nat.ne_of_gt hel)).trans hT
    have new : ObjOk X.prog X.w (upd H s.heap.objs.size (.tup [.int (i : Nat), x])) h'' s.heap.objs.size (.tup [.int (i : Nat), x]) :=
      ⟨by show 2 ≤ sizeLine; decide, [.int i s.toks, u], .cons ⟨_, rfl⟩ (.cons ru .nil), ⟨_, hT2, rfl, _, rfl⟩⟩
    have I1 : Inv X pins σ (upd H s.heap.objs.size (.tup [.int (i : Nat), x])) { s with heap := h'', toks := s.toks + 1 } :=
      I.turnedNew (ch := [e, it]) (fun b ob hb q => (sb.2 b (fun z => hb (by simp [z]))).trans (hk b ob (fun z => hb (by simp [z])) (fun z => hb (by simp [z])) q)) hf (Nat.le_refl _) new
    refine ⟨.ref s.heap.objs.size, _, I1, rfl, ⟨_, x, rfl, I.hok.fresh (Nat.le_refl _), rfl, fun ys hy => by rw [I.list_inj hy hq]; exact hx⟩, ⟨⟨u, ?_⟩, hit'.at fun o q => (sb.2 it (Ne.symm hne)).trans q, hne⟩, fun b hb => ?_⟩
    · have e1 : ((i + 1 : Nat) : Int) = (i : Int) + 1 := by omega
      rw [e1]; exact he'
    · have hb' : b < s.heap.objs.size := by
        have e' : b = e ∨ b = it := by simpa using hb
        rcases e' with z | z
        · rw [z]; exact hel
        · rw [z]; exact hil
      rw [upd_ne (Nat.ne_of_lt hb')]
      exact (hf b hb).1
  done := by
    intro X hP hw hK hc i pins s σ H E I hf st hg
    subst hP hw hK
    obtain ⟨⟨old, he⟩, hit, hne⟩ := st
    obtain ⟨xs, hq, hx⟩ := hg
    obtain ⟨its, rv, p, hz⟩ := I.list hq
    obtain ⟨f0, f1, f2, f3, f4, f5⟩ := hf it (by simp)
    have hl := rv.length
    exact wpAny_pyNext_enum_end (I.ok.hd hc) he hit p.isList (by simp; omega) fun h' eb => ⟨rfl, I.turned (t' := s.toks) (fun b o hb q => eb b o hb q) f0 f1 f3 f4 f5⟩
  self := fun A i s Q E st h => let ⟨⟨_, he⟩, _⟩ := st; wpAny_pyIter_enum he h
def iEnum (K : PySem.W.Frag) (ta : TA) : TI := fun σ H R => ta σ H fun vs H1 => ∃ a xs, vs = [.ref a] ∧ SqL K H1 a xs ∧ R (Ite K a) H1
theorem pi_enum {X : Cx} {e : Expr} {ta : TA} {p pos tpos : Pos} {elts : List Expr} {kk : Nat} (hg : Gl X "enumerate") (hm : X.mg "enumerate" = none) (ha : PA X [e] ta) (hs : starEach [e] X.env = [(false, eval e X.env)] := by rfl) :
    PI X (.Tuple elts kk tpos) (.Call (.Name "enumerate" p) [e] [] pos) (iEnum X.K ta) := by
  intro pins s σ H R I h
  refine Call_ (ld_blt I hg hm boot_enumerate (PyProof.Rows.callWith_type1 (thn (ha pos pins s σ H _ I h) fun us s1 ⟨vs, H1, I1, r1, q1⟩ => ?_) hs rfl))
  obtain ⟨a, xs, ex, hq, q⟩ := q1
  subst ex
  cases r1 with
  | cons r rr =>
    cases rr
    cases r
    obtain ⟨its, rv, p', hz⟩ := I1.list hq
    refine call_enumerate_list p'.isList fun h' he hit hsz hk => wpAny_pyIter_enum he ?_
    have I2 : Inv X pins σ H1 { s1 with heap := h' } := I1.kept (t' := s1.toks) hk
    refine ⟨s1.heap.objs.size + 1, [s1.heap.objs.size + 1, s1.heap.objs.size], _, _, H1, rfl, I2, turn_enum a (s1.heap.objs.size + 1) s1.heap.objs.size, ⟨⟨.none, he⟩, hit, Nat.succ_ne_self _⟩, fun b hb => ?_, q⟩
    have e' : b = s1.heap.objs.size + 1 ∨ b = s1.heap.objs.size := by simpa using hb
    have hle : s1.heap.objs.size ≤ b := by
      rcases e' with z | z
      · rw [z]; exact Nat.le_add_right _ _
      · rw [z]; exact Nat.le_refl _
    exact I1.fpOk hle (I1.hok.fresh hle)
/-! ### zip(list, list) -/
end L2

section 
namespace Bits
open PySem PyProof.Rows








end Bits
end 

section 
namespace TL
open PySem PySem.Builtin PySem.Builtin.Str PySem.StrLaws

abbrev tl (x : Str) : List Nat := x.cps.toList

/-! ### the list functions -/
/-- S stands at the head of l -/
def pre (S l : List Nat) : Bool := l.take S.length == S
/-- what stands before the first S, and behind it -/
def par (S : List Nat) : List Nat → List Nat → Option (List Nat × List Nat)
  | _, [] => none
  | acc, c :: r => if pre S (c :: r) = true then some (acc, (c :: r).drop S.length) else par S (acc ++ [c]) r




/-! ### the model's split and partition are these -/




/-! ### computing spl and par -/


/-! ### digits -/

/-! ### words: x.split() -/
end TL
end 

namespace L2
open PySem PySem.Spec PyProof.Rows




section
variable {X : Cx} {pins : List (Addr × Obj)} {σ : St} {H : Hp} {s : Shared} {Q : VK}
end

section
variable {X : Cx}





/-! ### of a text alone -/

/-! ### of a text and a text -/

end

section
variable {X : Cx} {o e : Expr} {to te : TE}

end
end L2

namespace L2
open PySem PySem.Spec PyProof.Rows

section
variable {X : Cx}
end

/-! ### slices of a text -/


end L2

namespace Att
open PySem PySem.W PySem.Calls PyProof.Rows

/-! ### the script -/



/-! ### the attachment: holds_open's last premise (the goal 'hc' behind k_head) from a wpAny of the law's body -/



/-! ### rules over ANY heap (no ledger) from facts about the written part K: the library's own take a ledger (News) for what they write -/
section
variable {prog : Program} {w : World} {A : Around} {E : Value → Shared → Prop} {s : Shared} {K : Frag}





/-! the whole heap as the ledger: makes every rule that writes through a ledger a rule over any heap -/

end
end Att

namespace L2
open PySem PySem.Spec PyProof.Rows



end L2

namespace L2
open PySem PySem.Spec PyProof.Rows


end L2

/- THE LAST THEOREM (shape; LID, My.* are yours):
   My.Adr: a structure of the addresses that your layer names (classes, functions); My.Txt K t: a structure (Prop) of the equations over K;
   My.txt_mk : {K} {implicit addresses ..} (e1 : nsIn K mainGlobals "law" = some (some (.ref f))) (e2 : K.lookup f = some ⟨oc, od, .func (fnOf "law" "law" params body scope dV kV doc pm an cdv ct), sl⟩) (e3 : codeIn K cdv "law" = true) .. : ∃ t, My.Txt K t

set_option maxRecDepth 100000 in
set_option maxHeartbeats 0 in
theorem PySem.Challenge.cw_LID_holds : PySem.Challenge.rw_LID.Holds := by
  w_on; o_law; k_head; (case hw => w_witness2)
  k_fill
  refine L2.walk_of (l := PySem.Challenge.rw_LID) (n := 63) (k := 40) (x := "script") (CX := fun w => ..) (sp := fun _ => My.sp_law) rfl (by decide) rfl ⟨rfl, by decide, by decide⟩ (fun w h Y => PySem.W.kIn_of Y) ?F ?S ?C
  case F =>
    intro w mg fa h KX G hmg
    have T : ∃ t, My.Txt (L2.KOf KX) t := by
      dsimp only [L2.KOf]                          -- K must stand as «<heap const> w.params» for k_is
      refine' My.txt_mk ?e1 ?e2 ?e3 ..
      (case e1 => PySem.W.k_is)                    -- in the order: a name -> its address -> its object -> its parts
      (case e2 => PySem.W.k_is)
      ..
    obtain ⟨t, T⟩ := T
    have e0 := hmg.symm.trans (PySem.W.mg_of KX G T.law)
    cases e0                                       -- fa is the law's own address
    exact ⟨_, fun s u => .of_eq rfl, fun base kb nb => My.law_fn T kb nb⟩     -- if «.of_eq rfl» comes too early: refine' ⟨_, ?b, fun base kb nb => My.law_fn T kb nb⟩; exact fun s u => .of_eq rfl
  case S => exact fun w H a ns hl hO hS => ..
  case C => exact ..
(the tactic k_is has no namespace: write k_is) -/

/-! SHORT WORDS over the layer: a def of the text, its body, what a loop and a test want. -/
namespace L2
open PySem PySem.Spec PyProof.Rows

/-! ### the text by places -/
/-- the j-th statement of a class's body -/
def inClass (s : Stmt) (j : Nat) : Stmt := match s with
  | .ClassDef _ _ _ body _ _ _ _ _ _ _ => body.getD j (.Pass ⟨0, 0, 0, 0⟩)
  | _ => .Pass ⟨0, 0, 0, 0⟩
def defArgs (s : Stmt) : Arguments := match s with
  | .FunctionDef _ a _ _ _ _ _ _ _ _ => a
  | _ => { posonlyargs := [], args := [], vararg := none, kwonlyargs := [], kw_defaults := [], kwarg := none, defaults := [] }
def defBody (s : Stmt) : List Stmt := match s with
  | .FunctionDef _ _ b _ _ _ _ _ _ _ => b
  | _ => []
def defScope (s : Stmt) : Scope := match s with
  | .FunctionDef _ _ _ _ _ _ sc _ _ _ => sc
  | _ => { kind := .function, names := [], isGenerator := false, isCoroutine := false }

/-! ### no exception leaves a def -/
abbrev CX0 : CXT := fun _ _ _ _ _ _ => False
abbrev E0 : XK := fun _ _ _ => False
theorem pass0 {X : Cx} : Passes CX0 X E0 := fun _ _ _ _ _ _ _ h => h.elim

/-! ### a def (or method) of the text as it stands behind the top -/
structure Fun (K : PySem.W.Frag) (x qual : Str) (st : Stmt) (f : Addr) (fd : FuncData) : Prop where
  ex : ∃ (oc : Value) (od : Option Addr) (kV doc pm : Value) (an : Option Addr) (cdv ct : Value) (osl : Array (Option Value)),
    fd = PySem.W.fnOf x qual (defArgs st) (defBody st) (defScope st) .none kV doc pm an cdv ct ∧ K.lookup f = some ⟨oc, od, .func fd, osl⟩ ∧ PySem.W.codeIn K cdv qual = true
  kp : PySem.W.keepIn K (.ref f) = true
section
variable {P : Program} {w : World} {K : PySem.W.Frag} {mg : Str → Option Value} {base : Heap}
/-- THE RULE for a def: its body as a term of rules, and the reading of that term -/
theorem Fun.ok {x qual : Str} {st : Stmt} {f : Addr} {fd : FuncData} {N ps : List Str} {k : Nat} {sp : Sp} (F : Fun K x qual st f fd) (S : FnScope N ps (defScope st)) (len : ∀ vs H Q E, sp vs H Q E → vs.length = ps.length)
    (hbody : ∀ (cdv : Value) (A : Around) (outer : List Env) (s : Shared) (H : Hp) (vs : List V) (Q : VK) (E : XK), Room k (A.deeper (envOfC qual (defScope st) s.heap.objs.size f cdv)) → sp vs H Q E →
      ∃ t, PSs (cxOf CX0 P w K mg base N qual (defScope st) f cdv A outer s H E).nox (defBody st) t ∧ t { nx := fun _ H' => Q .non H', rt := Q } (start N vs) H) : FnOk P w K mg base CX0 (k + 1) f fd ps sp := by
  obtain ⟨oc, od, kV, doc, pm, an, cdv, ct, osl, rfl, lk, hcd⟩ := F.ex
  refine fn_of lk hcd S len fun A outer s H vs Q E hr hsp => ?_
  obtain ⟨t, h, q⟩ := hbody cdv A outer s H vs Q E hr hsp
  exact ⟨t, h.nox, q⟩
/-- how its arguments bind (no defaults): h is «fun _ _ _ _ _ _ us hl => match us, hl with | [_, _], _ => rfl», one _ a parameter -/
theorem Fun.binds {x qual : Str} {st : Stmt} {f : Addr} {fd : FuncData} {ps : List Str} (F : Fun K x qual st f fd)
    (h : ∀ (kV doc pm : Value) (an : Option Addr) (cdv ct : Value) (us : List Value), us.length = ps.length → bindArgs (PySem.W.fnOf x qual (defArgs st) (defBody st) (defScope st) .none kV doc pm an cdv ct) ⟨us, []⟩ = pure (ps.zip us)) : Binds K fd ps [] := by
  obtain ⟨oc, od, kV, doc, pm, an, cdv, ct, osl, rfl, lk, hcd⟩ := F.ex
  exact .all (h kV doc pm an cdv ct)
theorem fun_mk {x qual : Str} {st : Stmt} {f : Addr} {oc : Value} {od an : Option Addr} {osl : Array (Option Value)} {kV doc pm cdv ct : Value} (l : K.lookup f = some ⟨oc, od, .func (PySem.W.fnOf x qual (defArgs st) (defBody st) (defScope st) .none kV doc pm an cdv ct), osl⟩)
    (c : PySem.W.codeIn K cdv qual = true) (k : PySem.W.keepIn K (.ref f) = true) : Fun K x qual st f (PySem.W.fnOf x qual (defArgs st) (defBody st) (defScope st) .none kV doc pm an cdv ct) := ⟨⟨oc, od, kV, doc, pm, an, cdv, ct, osl, rfl, l, c⟩, k⟩
end

/-! ### expressions in short: the name that stands in the i-th slot -/
section
variable {X : Cx}
theorem pv (i : Nat) {x : Str} {pos : Pos} (hN : X.N[i]? = some x := by rfl) (hv : Vis X.env.scope x := by first | exact Or.inl rfl | exact Or.inr (Or.inl rfl) | exact Or.inr (Or.inr rfl)) (hd : (x == ("__debug__" : Str)) = false := by decide)
    (hcd : (x == ("__classdict__" : Str)) = false := by decide) : PE X (.Name x pos) (tVar i) := pe_var hN hv hd hcd
end

/-! ### tests -/

/-! ### heaps -/
/-- all that was tracked is as it was -/
def Same (H H' : Hp) : Prop := ∀ b o, H b = some o → H' b = some o
theorem Same.refl (H : Hp) : Same H H := fun _ _ h => h
theorem Same.trans {H H1 H2 : Hp} (a : Same H H1) (b : Same H1 H2) : Same H H2 := fun c o h => b c o (a c o h)
theorem Same.free {H H' : Hp} (e : Same H H') {l : Addr} (h : H' l = Option.none) : H l = Option.none := by
  cases q : H l with
  | none => rfl
  | some o =>
    rw [e l o q] at h
    cases h
theorem Same.seq {K : PySem.W.Frag} {H H' : Hp} {a : Addr} {xs : List V} (e : Same H H') (h : SqL K H a xs) : SqL K H' a xs := by
  rcases h with (h | ⟨o, h⟩) | h
  · exact .inl (.inl (e _ _ h))
  · exact .inl (.inr ⟨o, e _ _ h⟩)
  · exact .inr h

/-! ### a dict's pairs: keys that differ -/
section
variable {κ : Type} [DecidableEq κ]
end
/-! ### lists -/
theorem at_of {xs : List V} {z : Int} {j : Nat} {v : V} (e : z = (j : Int)) (h : xs[j]? = some v) : atI xs z = some v := by
  rw [e]
  exact atI_nat h
theorem nd_ix {α : Type} {l : List α} (hN : l.Nodup) {i j : Nat} {x : α} (a : l[i]? = some x) (b : l[j]? = some x) : i = j := by
  obtain ⟨h1, e1⟩ := List.getElem?_eq_some_iff.mp a
  obtain ⟨h2, e2⟩ := List.getElem?_eq_some_iff.mp b
  exact (List.getElem_inj hN).mp (e1.trans e2.symm)
/-- a new instance and its __init__ leave all that was tracked as it was -/
theorem Same.made {H H1 : Hp} {x dx C : Addr} (nx : H x = Option.none) (nd : H dx = Option.none) (k : ∀ b o, (upd (upd H dx (.own x)) x (.ins C dx [])) b = some o → b ≠ x → H1 b = some o) : Same H H1 := fun b o e =>
  k b o (by rw [upd_ne (ne_of_none e nx), upd_ne (ne_of_none e nd)]; exact e) (ne_of_none e nx)
end L2

end
section
set_option Elab.async false
set_option linter.all false
set_option maxRecDepth 100000
set_option maxHeartbeats 2000000
namespace L2
open PySem PySem.Spec PyProof.Rows
open PySem.W (WData Codec OpenSpec Well WellAll ReadsW ReadsAllW)
/-! ### an answer as data -/
mutual
/-- x stands for the datum d, lists and tuples all the way -/
inductive Dw (K : PySem.W.Frag) (H : Hp) : V → WData → Prop
  | non : Dw K H .non .none
  | bl (b : Bool) : Dw K H (.bl b) (.bool b)
  | int (i : Int) : Dw K H (.int i) (.int i)
  | str (x : Str) : Dw K H (.str x) (.str x)
  | byt (b : Array UInt8) : Dw K H (.byt b) (.bytes b.toList)
  | lst {a : Addr} {xs : List V} {ds : List WData} : SqL K H a xs → DwAll K H xs ds → Dw K H (.ref a) (.list ds)
  | tup {a : Addr} {xs : List V} {ds : List WData} : SqT K H a xs → DwAll K H xs ds → Dw K H (.ref a) (.tuple ds)
inductive DwAll (K : PySem.W.Frag) (H : Hp) : List V → List WData → Prop
  | nil : DwAll K H [] []
  | cons {v : V} {vs : List V} {d : WData} {ds : List WData} : Dw K H v d → DwAll K H vs ds → DwAll K H (v :: vs) (d :: ds)
end
theorem dw_ints {K : PySem.W.Frag} {H : Hp} : ∀ ns : List Int, DwAll K H (ns.map V.int) (ns.map WData.int)
  | [] => .nil
  | n :: r => .cons (.int n) (dw_ints r)
theorem ints_dw {K : PySem.W.Frag} {H : Hp} : ∀ (ns : List Int) (xs : List V), DwAll K H xs (ns.map WData.int) → xs = ns.map V.int
  | [], xs, h => by
    cases h
    rfl
  | n :: r, xs, h => by
    cases h with
    | cons h1 h2 =>
      cases h1
      rw [ints_dw r _ h2] <;> rfl
section
variable {P : Program} {w : World} {K : PySem.W.Frag} {H : Hp} {h : Heap} {R : PySem.W.WRecords} {cl : Str → Option Addr}
theorem sqL_at {a : Addr} {xs : List V} (hok : HOk P w H h) (KX : K.In h) (q : SqL K H a xs) : ∃ (its : List Value) (o : Obj) (n : Nat), Vals xs its ∧ h.get? a = some o ∧ o.cls = .type "list" ∧ o.data = .seq its.toArray n := by
  rcases q with q | ⟨o, its, n, e, hc, _, hd, _, hv⟩
  · obtain ⟨_, its, n, hv, e⟩ := (show ObjOk P w H h a (.lst xs) from q.ok hok)
    exact ⟨its, _, n, hv, e, rfl, rfl⟩
  · exact ⟨its.toList, o, n, hv, KX _ _ e, hc, by simp [hd]⟩
theorem sqT_at {a : Addr} {xs : List V} (hok : HOk P w H h) (KX : K.In h) (q : SqT K H a xs) : ∃ (its : List Value) (o : Obj) (n : Nat), Vals xs its ∧ h.get? a = some o ∧ o.cls = .type "tuple" ∧ o.data = .seq its.toArray n := by
  rcases q with q | ⟨o, its, n, e, hc, hd, _, hv⟩
  · obtain ⟨_, its, hv, o, e, hc, n, hd⟩ := (show ObjOk P w H h a (.tup xs) from q.ok hok)
    exact ⟨its, o, n, hv, e, hc, hd⟩
  · exact ⟨its.toList, o, n, hv, KX _ _ e, hc, by simp [hd]⟩
mutual
theorem Dw.reads (hok : HOk P w H h) (KX : K.In h) : ∀ (d : WData) (v : V) (u : Value), Dw K H v d → RelV v u → ∃ as, ReadsW R cl h u d as
  | .none, _, _, x, r => by
    cases x
    cases r
    exact ⟨_, ReadsW.none⟩
  | .bool b, _, _, x, r => by
    cases x
    cases r
    exact ⟨_, ReadsW.bool b⟩
  | .int i, _, _, x, r => by
    cases x
    obtain ⟨t, rfl⟩ := r
    exact ⟨_, ReadsW.int i t⟩
  | .str s, _, _, x, r => by
    cases x
    obtain ⟨t, rfl⟩ := r
    exact ⟨_, ReadsW.str s t⟩
  | .bytes b, _, _, x, r => by
    cases x
    obtain ⟨t, rfl⟩ := r
    exact ⟨_, ReadsW.bytes _ t⟩
  | .list ds, _, _, x, r => by
    cases x with
    | lst hs ha =>
      cases r
      obtain ⟨its, o, n, rv, ho, hc, hd⟩ := sqL_at hok KX hs
      obtain ⟨as, hr⟩ := Dw.readsAll hok KX ds _ its ha rv
      exact ⟨_, ReadsW.list ho hc hd hr⟩
  | .tuple ds, _, _, x, r => by
    cases x with
    | tup hs ha =>
      cases r
      obtain ⟨its, o, n, rv, ho, hc, hd⟩ := sqT_at hok KX hs
      obtain ⟨as, hr⟩ := Dw.readsAll hok KX ds _ its ha rv
      exact ⟨_, ReadsW.tuple ho hc hd hr⟩
  | .float _, _, _, x, _ => by cases x
  | .dict _, _, _, x, _ => by cases x
  | .bytearray _, _, _, x, _ => by cases x
  | .set _, _, _, x, _ => by cases x
  | .frozenset _, _, _, x, _ => by cases x
  | .obj _ _, _, _, x, _ => by cases x
theorem Dw.readsAll (hok : HOk P w H h) (KX : K.In h) : ∀ (ds : List WData) (vs : List V) (us : List Value), DwAll K H vs ds → Vals vs us → ∃ as, ReadsAllW R cl h us ds as
  | [], _, _, x, r => by
    cases x
    cases r
    exact ⟨_, ReadsAllW.nil⟩
  | d :: ds, _, _, x, r => by
    cases x with
    | cons h1 h2 =>
      cases r with
      | cons r1 r2 =>
        obtain ⟨as, q1⟩ := Dw.reads hok KX d _ _ h1 r1
        obtain ⟨bs, q2⟩ := Dw.readsAll hok KX ds _ _ h2 r2
        exact ⟨_, ReadsAllW.cons q1 q2⟩
end
end
/-! ### the arguments -/
mutual
/-- data that a codec tells -/
def plW : WData → Bool
  | .none => true
  | .bool _ => true
  | .int _ => true
  | .str _ => true
  | .bytes _ => true
  | .list xs => plWs xs
  | .tuple xs => plWs xs
  | _ => false
def plWs : List WData → Bool
  | [] => true
  | x :: r => plW x && plWs r
end
theorem plWs_map {α : Type} {f : α → WData} (h : ∀ a, plW (f a) = true) : ∀ l : List α, plWs (l.map f) = true
  | [] => rfl
  | x :: r => by
    show (plW (f x) && plWs (r.map f)) = true
    rw [h x, plWs_map h r] <;> rfl
theorem pl_enc : ∀ (c : Codec) (a : c.denote), plW (c.enc a) = true
  | .unit, _ => rfl
  | .bool, _ => rfl
  | .int _ _, _ => rfl
  | .nat _ _, _ => rfl
  | .u8, _ => rfl
  | .bytes _ _, _ => rfl
  | .text _ _ _ _, _ => rfl
  | .list _ _ c, a => plWs_map (fun x => pl_enc c x) a
  | .pair c d, a => by
    show (plW (c.enc a.1) && (plW (d.enc a.2) && true)) = true
    rw [pl_enc c a.1, pl_enc d a.2] <;> rfl
  | .triple c d e, a => by
    show (plW (c.enc a.1) && (plW (d.enc a.2.1) && (plW (e.enc a.2.2) && true))) = true
    rw [pl_enc c a.1, pl_enc d a.2.1, pl_enc e a.2.2] <;> rfl
  | .option c, none => rfl
  | .option c, some x => pl_enc c x
theorem pl_encAll : ∀ (cs : List Codec) (a : Codec.denoteAll cs), plWs (Codec.encAll cs a) = true
  | [], _ => rfl
  | c :: cs, a => by
    show (plW (c.enc a.1) && plWs (Codec.encAll cs a.2)) = true
    rw [pl_enc c a.1, pl_encAll cs a.2] <;> rfl
theorem weight_mem : ∀ {xs : List WData} {d : WData}, d ∈ xs → d.weight ≤ WData.weightAll xs
  | [], d, h => absurd h (by simp)
  | x :: r, d, h => by
    show d.weight ≤ x.weight + 1 + WData.weightAll r
    rcases List.mem_cons.mp h with e | m
    · rw [e]
      omega
    · have z := weight_mem m
      omega
def toV : Value → V
  | .none => .non
  | .bool b => .bl b
  | .int i _ => .int i
  | .str x _ => .str x
  | .bytes b _ => .byt b
  | .ref a => .ref a
  | _ => .non
/-- a value of the arguments, its objects among A -/
def OkU (A : List Addr) : Value → Prop
  | .none => True
  | .bool _ => True
  | .int _ _ => True
  | .str _ _ => True
  | .bytes _ _ => True
  | .ref a => a ∈ A
  | _ => False
theorem OkU.mono {A B : List Addr} (h : ∀ a ∈ A, a ∈ B) : ∀ {u : Value}, OkU A u → OkU B u := fun {u} x => by
  cases u with
  | ref a => exact h a x
  | none => trivial
  | bool b => trivial
  | int i t => trivial
  | str s t => trivial
  | bytes b t => trivial
  | _ => exact False.elim x
theorem relV_toV {A : List Addr} {u : Value} (x : OkU A u) : RelV (toV u) u := by
  cases u with
  | ref a => rfl
  | none => rfl
  | bool b => rfl
  | int i t => exact ⟨t, rfl⟩
  | str s t => exact ⟨t, rfl⟩
  | bytes b t => exact ⟨t, rfl⟩
  | _ => exact False.elim x
theorem vals_toV {A : List Addr} : ∀ {vs : List Value}, (∀ u ∈ vs, OkU A u) → Vals (vs.map toV) vs
  | [], _ => .nil
  | u :: r, h => .cons (relV_toV (h u (List.mem_cons_self ..))) (vals_toV fun x hx => h x (List.mem_cons_of_mem _ hx))
/-- an object of the arguments -/
def ArgOb (h : Heap) (A : List Addr) (a : Addr) : Prop := ∃ vs : List Value, vs.length ≤ sizeLine ∧ (∀ u ∈ vs, OkU A u) ∧
  (h.get? a = some { cls := .type "list", data := .seq vs.toArray } ∨ h.get? a = some { cls := .type "tuple", data := .seq vs.toArray })
theorem ArgOb.mono {h : Heap} {A B : List Addr} {a : Addr} (k : ∀ a ∈ A, a ∈ B) (x : ArgOb h A a) : ArgOb h B a := by
  obtain ⟨vs, h1, h2, h3⟩ := x
  exact ⟨vs, h1, fun u hu => (h2 u hu).mono k, h3⟩
theorem wellAll_len {P : Params} {h : Heap} : ∀ {vs : List Value} {ds : List WData}, WellAll P h vs ds → vs.length = ds.length
  | _, _, .nil => rfl
  | _, _, .cons _ b => by
    show _ + 1 = _ + 1
    rw [wellAll_len b]
theorem well_list {P : Params} {h : Heap} {v : Value} {ds : List WData} (x : Well P h v (.list ds)) : ∃ (a : Addr) (vs : List Value), v = .ref a ∧ h.get? a = some { cls := .type "list", data := .seq vs.toArray } ∧ WellAll P h vs ds := by
  cases x with
  | list ho hall => exact ⟨_, _, rfl, ho, hall⟩
theorem well_tuple {P : Params} {h : Heap} {v : Value} {ds : List WData} (x : Well P h v (.tuple ds)) : ∃ (a : Addr) (vs : List Value), v = .ref a ∧ h.get? a = some { cls := .type "tuple", data := .seq vs.toArray } ∧ WellAll P h vs ds := by
  cases x with
  | tuple ho hall => exact ⟨_, _, rfl, ho, hall⟩
theorem well_cons {P : Params} {h : Heap} {us : List Value} {d : WData} {ds : List WData} (x : WellAll P h us (d :: ds)) : ∃ (v : Value) (vs : List Value), us = v :: vs ∧ Well P h v d ∧ WellAll P h vs ds := by
  cases x with
  | cons a b => exact ⟨_, _, rfl, a, b⟩
theorem line_of {n : Nat} (h : n ≤ 1048576) : n ≤ sizeLine := Nat.le_trans h (by decide)
section
variable {P : Params} {h : Heap}
mutual
theorem area_one : ∀ (d : WData) (v : Value), Well P h v d → plW d = true → d.weight ≤ 1048576 → ∃ A : List Addr, OkU A v ∧ ∀ a ∈ A, ArgOb h A a
  | .none, _, x, _, _ => by
    cases x
    exact ⟨[], trivial, fun a m => absurd m (by simp)⟩
  | .bool b, _, x, _, _ => by
    cases x
    exact ⟨[], trivial, fun a m => absurd m (by simp)⟩
  | .int i, _, x, _, _ => by
    cases x
    exact ⟨[], trivial, fun a m => absurd m (by simp)⟩
  | .str s, _, x, _, _ => by
    cases x
    exact ⟨[], trivial, fun a m => absurd m (by simp)⟩
  | .bytes b, _, x, _, _ => by
    cases x
    exact ⟨[], trivial, fun a m => absurd m (by simp)⟩
  | .list ds, _, x, p, z => by
    obtain ⟨a, vs, rfl, ho, hall⟩ := well_list x
    have z2 : WData.weightAll ds ≤ 1048576 := z
    obtain ⟨A, h1, h2⟩ := area_all ds _ hall p fun d hd => Nat.le_trans (weight_mem hd) z2
    have k : ∀ b ∈ A, b ∈ a :: A := fun b hb => List.mem_cons_of_mem _ hb
    refine ⟨a :: A, List.mem_cons_self .., fun b hb => ?_⟩
    rcases List.mem_cons.mp hb with e | m
    · rw [e]
      exact ⟨vs, line_of (by rw [wellAll_len hall]; exact Nat.le_trans (PySem.W.length_le_weightAllW ds) z2), fun u hu => (h1 u hu).mono k, .inl ho⟩
    · exact (h2 b m).mono k
  | .tuple ds, _, x, p, z => by
    obtain ⟨a, vs, rfl, ho, hall⟩ := well_tuple x
    have z2 : WData.weightAll ds ≤ 1048576 := z
    obtain ⟨A, h1, h2⟩ := area_all ds _ hall p fun d hd => Nat.le_trans (weight_mem hd) z2
    have k : ∀ b ∈ A, b ∈ a :: A := fun b hb => List.mem_cons_of_mem _ hb
    refine ⟨a :: A, List.mem_cons_self .., fun b hb => ?_⟩
    rcases List.mem_cons.mp hb with e | m
    · rw [e]
      exact ⟨vs, line_of (by rw [wellAll_len hall]; exact Nat.le_trans (PySem.W.length_le_weightAllW ds) z2), fun u hu => (h1 u hu).mono k, .inr ho⟩
    · exact (h2 b m).mono k
  | .float _, _, _, p, _ => Bool.noConfusion (show false = true from p)
  | .dict _, _, _, p, _ => Bool.noConfusion (show false = true from p)
  | .bytearray _, _, _, p, _ => Bool.noConfusion (show false = true from p)
  | .set _, _, _, p, _ => Bool.noConfusion (show false = true from p)
  | .frozenset _, _, _, p, _ => Bool.noConfusion (show false = true from p)
  | .obj _ _, _, _, p, _ => Bool.noConfusion (show false = true from p)
theorem area_all : ∀ (ds : List WData) (vs : List Value), WellAll P h vs ds → plWs ds = true → (∀ d ∈ ds, d.weight ≤ 1048576) → ∃ A : List Addr, (∀ u ∈ vs, OkU A u) ∧ ∀ a ∈ A, ArgOb h A a
  | [], _, x, _, _ => by
    cases x
    exact ⟨[], fun u m => absurd m (by simp), fun a m => absurd m (by simp)⟩
  | d :: ds, _, x, p, z => by
    obtain ⟨v, vs, rfl, x1, x2⟩ := well_cons x
    have q : plW d = true ∧ plWs ds = true := Bool.and_eq_true_iff.mp p
    obtain ⟨A, a1, a2⟩ := area_one d v x1 q.1 (z d (List.mem_cons_self ..))
    obtain ⟨B, b1, b2⟩ := area_all ds vs x2 q.2 fun e he => z e (List.mem_cons_of_mem _ he)
    have kA : ∀ b ∈ A, b ∈ A ++ B := fun b hb => List.mem_append.mpr (.inl hb)
    have kB : ∀ b ∈ B, b ∈ A ++ B := fun b hb => List.mem_append.mpr (.inr hb)
    refine ⟨A ++ B, fun u hu => ?_, fun b hb => ?_⟩
    · rcases List.mem_cons.mp hu with e | m
      · rw [e]
        exact a1.mono kA
      · exact (b1 u m).mono kB
    · rcases List.mem_append.mp hb with m | m
      · exact (a2 b m).mono kA
      · exact (b2 b m).mono kB
end
end
/-- what is tracked of an argument's object -/
def hoOf (o : Obj) : Option HO := match o.data with
  | .seq vs _ => if (o.cls == Value.type "list") = true then some (.frz o (.lst (vs.toList.map toV))) else some (.frz o (.tup (vs.toList.map toV)))
  | _ => none
def argH (K : PySem.W.Frag) (h : Heap) (A : List Addr) : Hp := fun b => if b ∈ A then (if (K.lookup b).isNone = true then (h.get? b).bind hoOf else none) else none
/-- nothing is tracked but what is known to the object -/
def OnlyF (H : Hp) : Prop := ∀ b, H b = none ∨ ∃ o u, H b = some (.frz o u)
theorem hoOf_lst (vs : List Value) : hoOf { cls := .type "list", data := .seq vs.toArray } = some (.frz { cls := .type "list", data := .seq vs.toArray } (.lst (vs.map toV))) := by
  show (if (Value.type "list" == Value.type "list") = true then some (HO.frz { cls := .type "list", data := .seq vs.toArray } (.lst (vs.toArray.toList.map toV))) else some (HO.frz { cls := .type "list", data := .seq vs.toArray } (.tup (vs.toArray.toList.map toV)))) = _
  rw [if_pos (beq_self_eq_true _)]
theorem hoOf_tup (vs : List Value) : hoOf { cls := .type "tuple", data := .seq vs.toArray } = some (.frz { cls := .type "tuple", data := .seq vs.toArray } (.tup (vs.map toV))) := by
  show (if (Value.type "tuple" == Value.type "list") = true then some (HO.frz { cls := .type "tuple", data := .seq vs.toArray } (.lst (vs.toArray.toList.map toV))) else some (HO.frz { cls := .type "tuple", data := .seq vs.toArray } (.tup (vs.toArray.toList.map toV)))) = _
  rw [if_neg (by decide)]
section
variable {P : Program} {w : World} {K : PySem.W.Frag} {h : Heap} {A : List Addr}
theorem argH_at {b : Addr} {o : Obj} (hb : b ∈ A) (hk : K.lookup b = none) (e : h.get? b = some o) : argH K h A b = hoOf o := by
  unfold argH
  rw [if_pos hb, hk, if_pos (show (none : Option Obj).isNone = true from rfl), e] <;> rfl
theorem of_argH {b : Addr} {u : HO} (q : argH K h A b = some u) : b ∈ A ∧ K.lookup b = none := by
  unfold argH at q
  by_cases hb : b ∈ A
  · rw [if_pos hb] at q
    cases hk : K.lookup b with
    | none => exact ⟨hb, rfl⟩
    | some o =>
      rw [hk, if_neg (by simp)] at q
      cases q
  · rw [if_neg hb] at q
    cases q
/-- what stands tracked -/
theorem argH_is (ar : ∀ a ∈ A, ArgOb h A a) {b : Addr} {u : HO} (q : argH K h A b = some u) : K.lookup b = none ∧ ∃ vs : List Value, vs.length ≤ sizeLine ∧ (∀ u ∈ vs, OkU A u) ∧
    ((h.get? b = some { cls := .type "list", data := .seq vs.toArray } ∧ u = .frz { cls := .type "list", data := .seq vs.toArray } (.lst (vs.map toV))) ∨
     (h.get? b = some { cls := .type "tuple", data := .seq vs.toArray } ∧ u = .frz { cls := .type "tuple", data := .seq vs.toArray } (.tup (vs.map toV)))) := by
  obtain ⟨hb, hk⟩ := of_argH q
  obtain ⟨vs, h1, h2, h3⟩ := ar b hb
  refine ⟨hk, vs, h1, h2, ?_⟩
  rcases h3 with e | e
  · rw [argH_at hb hk e, hoOf_lst] at q
    exact .inl ⟨e, (Option.some.inj q).symm⟩
  · rw [argH_at hb hk e, hoOf_tup] at q
    exact .inr ⟨e, (Option.some.inj q).symm⟩
theorem argH_only (ar : ∀ a ∈ A, ArgOb h A a) : OnlyF (argH K h A) := fun b => by
  cases q : argH K h A b with
  | none => exact .inl rfl
  | some u =>
    obtain ⟨_, vs, _, _, ⟨_, e⟩ | ⟨_, e⟩⟩ := argH_is ar q
    · exact .inr ⟨_, _, by rw [e]⟩
    · exact .inr ⟨_, _, by rw [e]⟩
theorem argH_ok (ar : ∀ a ∈ A, ArgOb h A a) : HOk P w (argH K h A) h := fun b u q => by
  obtain ⟨_, vs, h1, h2, ⟨e, rfl⟩ | ⟨e, rfl⟩⟩ := argH_is ar q
  · exact ⟨e, by rw [List.length_map]; exact h1, vs, _, vals_toV h2, e⟩
  · exact ⟨e, by rw [List.length_map]; exact h1, vs, vals_toV h2, _, e, rfl, _, rfl⟩
theorem seq_inj {c c' : Value} {vs us : List Value} (e : (some { cls := c, data := .seq vs.toArray } : Option Obj) = some { cls := c', data := .seq us.toArray }) : c = c' ∧ vs = us := by
  have e1 := Option.some.inj e
  have e2 : c = c' := congrArg Obj.cls e1
  have e3 : Data.seq vs.toArray = Data.seq us.toArray := congrArg Obj.data e1
  injection e3 with e4
  refine ⟨e2, ?_⟩
  have e5 := congrArg Array.toList e4
  simpa using e5
/-- a list argument -/
theorem argL (KX : K.In h) (ar : ∀ a ∈ A, ArgOb h A a) {a : Addr} {vs : List Value} (ha : a ∈ A) (e : h.get? a = some { cls := .type "list", data := .seq vs.toArray }) : (∀ u ∈ vs, OkU A u) ∧ SqL K (argH K h A) a (vs.map toV) := by
  obtain ⟨us, h1, h2, h3⟩ := ar a ha
  have hu : us = vs := by
    rcases h3 with q | q
    · rw [e] at q
      exact (seq_inj q).2.symm
    · rw [e] at q
      exact absurd (Value.type.inj (seq_inj q).1) (by decide)
  subst hu
  refine ⟨h2, ?_⟩
  cases hk : K.lookup a with
  | none => exact .inl (.inr ⟨_, by rw [argH_at ha hk e, hoOf_lst]⟩)
  | some o =>
    have e2 := KX a o hk
    rw [e] at e2
    obtain rfl := Option.some.inj e2
    exact .inr ⟨_, us.toArray, _, hk, rfl, rfl, rfl, by rw [List.size_toArray]; exact h1, by simpa using vals_toV h2⟩
theorem argT (KX : K.In h) (ar : ∀ a ∈ A, ArgOb h A a) {a : Addr} {vs : List Value} (ha : a ∈ A) (e : h.get? a = some { cls := .type "tuple", data := .seq vs.toArray }) : (∀ u ∈ vs, OkU A u) ∧ SqT K (argH K h A) a (vs.map toV) := by
  obtain ⟨us, h1, h2, h3⟩ := ar a ha
  have hu : us = vs := by
    rcases h3 with q | q
    · rw [e] at q
      exact absurd (Value.type.inj (seq_inj q).1) (by decide)
    · rw [e] at q
      exact (seq_inj q).2.symm
  subst hu
  refine ⟨h2, ?_⟩
  cases hk : K.lookup a with
  | none => exact .inl (.inr ⟨_, by rw [argH_at ha hk e, hoOf_tup]⟩)
  | some o =>
    have e2 := KX a o hk
    rw [e] at e2
    obtain rfl := Option.some.inj e2
    exact .inr ⟨_, us.toArray, _, hk, rfl, rfl, by rw [List.size_toArray]; exact h1, by simpa using vals_toV h2⟩
mutual
theorem dw_one {Pm : Params} (KX : K.In h) (ar : ∀ a ∈ A, ArgOb h A a) : ∀ (d : WData) (v : Value), Well Pm h v d → plW d = true → OkU A v → Dw K (argH K h A) (toV v) d
  | .none, _, x, _, _ => by
    cases x
    exact .non
  | .bool b, _, x, _, _ => by
    cases x
    exact .bl b
  | .int i, _, x, _, _ => by
    cases x
    exact .int i
  | .str s, _, x, _, _ => by
    cases x
    exact .str s
  | .bytes b, _, x, _, _ => by
    cases x
    have z := Dw.byt (K := K) (H := argH K h A) b.toArray
    exact z
  | .list ds, _, x, p, hu => by
    obtain ⟨a, vs, rfl, ho, hall⟩ := well_list x
    obtain ⟨h2, hs⟩ := argL KX ar hu ho
    exact .lst hs (dw_all KX ar ds _ hall p h2)
  | .tuple ds, _, x, p, hu => by
    obtain ⟨a, vs, rfl, ho, hall⟩ := well_tuple x
    obtain ⟨h2, hs⟩ := argT KX ar hu ho
    exact .tup hs (dw_all KX ar ds _ hall p h2)
  | .float _, _, _, p, _ => Bool.noConfusion (show false = true from p)
  | .dict _, _, _, p, _ => Bool.noConfusion (show false = true from p)
  | .bytearray _, _, _, p, _ => Bool.noConfusion (show false = true from p)
  | .set _, _, _, p, _ => Bool.noConfusion (show false = true from p)
  | .frozenset _, _, _, p, _ => Bool.noConfusion (show false = true from p)
  | .obj _ _, _, _, p, _ => Bool.noConfusion (show false = true from p)
theorem dw_all {Pm : Params} (KX : K.In h) (ar : ∀ a ∈ A, ArgOb h A a) : ∀ (ds : List WData) (vs : List Value), WellAll Pm h vs ds → plWs ds = true → (∀ u ∈ vs, OkU A u) → DwAll K (argH K h A) (vs.map toV) ds
  | [], _, x, _, _ => by
    cases x
    exact .nil
  | d :: ds, _, x, p, hu => by
    obtain ⟨v, vs, rfl, x1, x2⟩ := well_cons x
    have q : plW d = true ∧ plWs ds = true := Bool.and_eq_true_iff.mp p
    exact .cons (dw_one KX ar d v x1 q.1 (hu _ (List.mem_cons_self ..))) (dw_all KX ar ds vs x2 q.2 fun u m => hu u (List.mem_cons_of_mem _ m))
end
end
/-! ### the call -/
theorem spec_call {P : Program} {w : World} {K : PySem.W.Frag} {mg mb : Str → Option Value} {CX : CXT} {k : Nat} {fa : Addr} {fd : FuncData} {ps : List Str} {sp : Sp} {s₁ : Shared} {vals : List Value} {ds : List WData} {R : PySem.W.WRecords} {cl : Str → Option Addr} {d0 : WData}
    (KX : K.In s₁.heap) (hns : s₁.heap.Ns mainGlobals mg) (hb : s₁.heap.Ns builtinsNs mb) (hbb : ∀ x : Str, x ≠ "__name__" → mb x = bootBuiltins x) (hlim : s₁.heap.NoLimit) (hg : s₁.gens = #[])
    (hwl : WellAll w.params s₁.heap vals ds) (hpl : plWs ds = true) (hwt : ∀ d ∈ ds, d.weight ≤ 1048576) (hr : Room k callerA)
    (F : ∀ base : Heap, K.In base → base.Ns mainGlobals mg → FnOk P w K mg base CX k fa fd ps sp) (hbind : ∀ (s : Shared) (us : List Value), us.length = ps.length → BindsTo s fd ⟨us, []⟩ (ps.zip us)) (hlen : ds.length = ps.length)
    (hsp : ∀ (H : Hp) (xs : List V), OnlyF H → DwAll K H xs ds → sp xs H (fun v H' => Dw K H' v d0) fun _ _ _ => False)
    (hCX : ∀ H e s', CX [] H s₁ (fun _ _ _ => False) e s' → False) :
    codeAny (model P w) callerA (.call (.ref fa) ⟨vals, []⟩) (fun r s' => ∃ u as, r = .ok (.ret u) ∧ ReadsW R cl s'.heap u d0 as ∧ OldK s₁.heap s'.heap ∧ s'.os = s₁.os ∧ AllBare s'.gens) s₁ := by
  obtain ⟨A, ho, ar⟩ := area_all ds vals hwl hpl hwt
  have hO : OnlyF (argH K s₁.heap A) := argH_only ar
  have hok : HOk P w (argH K s₁.heap A) s₁.heap := argH_ok ar
  have hS := dw_all KX ar ds vals hwl hpl ho
  have hV := vals_toV ho
  have hK : ∀ b u, argH K s₁.heap A b = some u → K.lookup b = none := fun b u q => (argH_is ar q).1
  have noA : ∀ {b : Addr} {o : Obj} {es : Array DictEntry} {ep : Nat}, s₁.heap.get? b = some o → o.data = .dict es ep → argH K s₁.heap A b = none := fun {b o es ep} e d => by
    cases q : argH K s₁.heap A b with
    | none => rfl
    | some u =>
      obtain ⟨_, vs, _, _, ⟨e2, _⟩ | ⟨e2, _⟩⟩ := argH_is ar q
      · rw [e2] at e
        cases e
        have d' : Data.seq vs.toArray _ = Data.dict es ep := d
        cases d'
      · rw [e2] at e
        cases e
        have d' : Data.seq vs.toArray _ = Data.dict es ep := d
        cases d'
  generalize argH K s₁.heap A = H at hO hok hS hK noA
  have base_of : ∀ {b : Addr} {o : Obj}, s₁.heap.get? b = some o → H b = none → (hidT s₁.heap H).get? b = some o := fun e n => hidT_get e n
  have nsK : ∀ {b : Addr} {m : Str → Option Value}, s₁.heap.Ns b m → (hidT s₁.heap H).Ns b m := fun {b m} ⟨o, es, ep, e, d, r⟩ => ⟨o, es, ep, base_of e (noA e d), d, r⟩
  have nK : ∀ b o, K.lookup b = some o → H b = none := fun b o e => by
    cases q : H b with
    | none => rfl
    | some u =>
      rw [hK b u q] at e
      cases e
  have hKb : K.In (hidT s₁.heap H) := fun b o e => base_of (KX b o e) (nK b o e)
  have hM : Mod K mg (hidT s₁.heap H) := ⟨hKb, nsK hns, ⟨mb, nsK hb, hbb⟩, let ⟨mc, h1, h2⟩ := hlim; ⟨mc, nsK h1, h2⟩⟩
  have e0 : Env0 P w K mg (hidT s₁.heap H) callerA [] s₁ H := ⟨rfl, hM, fun b o e => of_hidT e, Nat.le_of_eq (hidT_size _ _), trivial, fun b hb => absurd (show b ∈ ([] : List Addr) from hb) (by simp), hok, .of_eq hg⟩
  have hl : vals.length = ps.length := by rw [wellAll_len hwl]; exact hlen
  refine codeAny_mono ((F _ hKb (nsK hns)).run callerA [] s₁ H ⟨vals, []⟩ vals (vals.map toV) _ _ hr e0 (hbind s₁ vals hl) hV (hsp H _ hO hS)) fun r s' x => ?_
  cases r with
  | error e => exact (hCX H e s' x).elim
  | ok fl =>
    cases fl with
    | next => exact False.elim x
    | brk => exact False.elim x
    | cont => exact False.elim x
    | ret u =>
      obtain ⟨v, H', os, bare, un, hok', r', q⟩ := x
      have kept : ∀ b o, s₁.heap.get? b = some o → s'.heap.get? b = some o := fun b o e => by
        cases q2 : H b with
        | none => exact un.keep b o e q2 (by intro z; exact absurd (show b ∈ ([] : List Addr) from z) (by simp)) (by simp)
        | some u2 =>
          rcases hO b with z | ⟨ob, u3, z⟩
          · rw [q2] at z
            cases z
          · have z2 := un.frzs b ob _ z
            obtain ⟨e1, _⟩ := hok b _ z
            obtain ⟨e2, _⟩ := hok' b _ z2
            rw [e] at e1
            cases e1
            exact e2
      have KX' : K.In s'.heap := fun b o e => kept b o (KX b o e)
      obtain ⟨as, hrd⟩ := Dw.reads (R := R) (cl := cl) hok' KX' d0 v u q r'
      exact ⟨u, as, rfl, hrd, OldK.of_keep kept, os, bare⟩
/-! ### the row -/
theorem layable_weight {ds : List WData} (h : WData.layableAll ds = true) : ∀ d ∈ ds, d.weight ≤ 1048576 := fun d hd =>
  (PySem.W.layableW_iff.mp (List.all_eq_true.mp h d hd)).2.2
theorem encAll_len : ∀ (cs : List Codec) (a : Codec.denoteAll cs), (Codec.encAll cs a).length = cs.length
  | [], _ => rfl
  | c :: cs, a => by
    show (Codec.encAll cs a.2).length + 1 = cs.length + 1
    rw [encAll_len cs a.2]
/-- the goal that k_headS leaves (case hc), from the promise of the row's def: whatever the arguments that the codecs let and the row asks for, the def gives what stands for enc (f ..) -/
theorem walk_spec {r : OpenSpec} {k : Nat} {q : Program} {loose : List Str} {XP : (Str → Option Value) → Heap → Prop} {YP : World → Heap → Prop} {d : DefRec} {K : Params → PySem.W.Frag} {CX : World → CXT} {ps : List Str} {sp : World → Sp}
    (hwell : r.wellSaid = true) (hdf : d.params.defaults = []) (hlen : r.args.length = ps.length) (hr : Room k callerA)
    (hY : ∀ (w : World) (h : Heap), YP w h → (K w.params).In h)
    (F : ∀ (w : World) (mg : Str → Option Value) (fa : Addr) (h : Heap), YP w h → (K w.params).In h → h.Ns mainGlobals mg → mg d.name = some (.ref fa) →
      ∃ fd : FuncData, (∀ (s : Shared) (us : List Value), us.length = ps.length → BindsTo s fd ⟨us, []⟩ (ps.zip us)) ∧
        ∀ base : Heap, (K w.params).In base → base.Ns mainGlobals mg → FnOk r.prog w (K w.params) mg base (CX w) k fa fd ps (sp w))
    (hsp : ∀ (w : World) (H : Hp) (xs : List V) (a : Codec.denoteAll r.args), OnlyF H → Codec.withinAll r.args a = true → Codec.app r.args r.asked a = true → DwAll (K w.params) H xs (Codec.encAll r.args a) →
      sp w xs H (fun v H' => Dw (K w.params) H' v (r.ret.enc (Codec.app r.args r.f a))) fun _ _ _ => False)
    (hCX : ∀ (w : World) (H : Hp) (s : Shared) (e : Value) (s' : Shared), CX w [] H s (fun _ _ _ => False) e s' → False) :
    PySem.W.WalkOS q loose XP YP r d [] (fun f vs => PySem.call f vs) := by
  intro w s_0 s₁ mg mb G Y fa o pm cd doc dV kV ho hd hcd hD hmg hg args vals as hpre hlay hrd hwl hlo
  obtain ⟨a, e1, e2⟩ := PySem.W.os_pre_some hpre
  obtain ⟨e3, hwi⟩ := Codec.encAll_of_decAll r.args args a e1
  subst e3
  have KX := hY w _ Y
  obtain ⟨fd, hb, hF⟩ := F w mg fa _ Y KX G.T.g hmg
  refine PySem.W.enter_call (codeAny_mono (spec_call (R := []) (cl := classAt s_0.heap) (d0 := r.ret.enc (Codec.app r.args r.f a)) KX G.T.g G.T.b G.T.builtins G.T.nolimit hg hwl (pl_encAll _ _) (layable_weight hlay) hr hF hb (by rw [encAll_len]; exact hlen)
    (fun H xs hO hS => hsp w H xs a hO hwi e2 hS) fun H e s' => hCX w H s₁ e s') fun r' s' hq => ?_)
  obtain ⟨u, as', rfl, h1, h2, h3, h4⟩ := hq
  exact ⟨.inl ⟨u, _, as', rfl, fun _ => rfl, h1, (OpenSpec.post_iff hwell hwi _ _).mpr rfl, fun z => Bool.noConfusion (show false = true from z)⟩, h2, h3, h4⟩
/-- the same where the promise hangs on the written part alone -/
theorem walk_specK {r : OpenSpec} {k : Nat} {q : Program} {loose : List Str} {XP : (Str → Option Value) → Heap → Prop} {YP : World → Heap → Prop} {d : DefRec} {K : Params → PySem.W.Frag} {CX : CXT} {ps : List Str} {sp : PySem.W.Frag → Sp}
    (hwell : r.wellSaid = true) (hdf : d.params.defaults = []) (hlen : r.args.length = ps.length) (hr : Room k callerA)
    (hY : ∀ (w : World) (h : Heap), YP w h → (K w.params).In h)
    (F : ∀ (w : World) (mg : Str → Option Value) (fa : Addr) (h : Heap), YP w h → (K w.params).In h → h.Ns mainGlobals mg → mg d.name = some (.ref fa) →
      ∃ fd : FuncData, (∀ (s : Shared) (us : List Value), us.length = ps.length → BindsTo s fd ⟨us, []⟩ (ps.zip us)) ∧
        ∀ base : Heap, (K w.params).In base → base.Ns mainGlobals mg → FnOk r.prog w (K w.params) mg base CX k fa fd ps (sp (K w.params)))
    (hsp : ∀ (K : PySem.W.Frag) (H : Hp) (xs : List V) (a : Codec.denoteAll r.args), OnlyF H → Codec.withinAll r.args a = true → Codec.app r.args r.asked a = true → DwAll K H xs (Codec.encAll r.args a) →
      sp K xs H (fun v H' => Dw K H' v (r.ret.enc (Codec.app r.args r.f a))) fun _ _ _ => False)
    (hCX : ∀ (H : Hp) (s : Shared) (e : Value) (s' : Shared), CX [] H s (fun _ _ _ => False) e s' → False) :
    PySem.W.WalkOS q loose XP YP r d [] (fun f vs => PySem.call f vs) :=
  walk_spec (K := K) (CX := fun _ => CX) (sp := fun w => sp (K w.params)) hwell hdf hlen hr hY F (fun w H xs a h1 h2 h3 h4 => hsp (K w.params) H xs a h1 h2 h3 h4) fun _ H s e s' => hCX H s e s'
end L2
end

section
set_option Elab.async false
set_option linter.all false
namespace Cc
open Kh264
/-! ### small things -/
def bi (b : Bool) : Int := if b then 1 else 0
theorem bi_eq1 (b : Bool) : decide (bi b = 1) = b := by cases b <;> rfl
theorem bi_eq0 (b : Bool) : decide (bi b = 0) = !b := by cases b <;> rfl
theorem bi_le (b : Bool) : 0 ≤ bi b ∧ bi b ≤ 1 := by cases b <;> decide
theorem bit_div (n k : Nat) : ((n : Int) / 2 ^ k) % 2 = bi (n.testBit k) := by
  have h : (((n / 2 ^ k) % 2 : Nat) : Int) = ((n : Int) / 2 ^ k) % 2 := by
    rw [Int.natCast_emod, Int.natCast_ediv, Int.natCast_pow]; rfl
  rw [← h, Nat.testBit_eq_decide_div_mod_eq]
  have h2 : n / 2 ^ k % 2 = 0 ∨ n / 2 ^ k % 2 = 1 := by omega
  rcases h2 with e | e <;> rw [e] <;> rfl
theorem take_snoc {α : Type} : ∀ {l : List α} {i : Nat} {x : α}, l[i]? = some x → l.take (i + 1) = l.take i ++ [x]
  | [], i, x, h => by simp at h
  | a :: l, 0, x, h => by
    have e : a = x := Option.some.inj h
    subst e
    rfl
  | a :: l, i + 1, x, h => by
    have ih := take_snoc (l := l) (i := i) (x := x) h
    show a :: l.take (i + 1) = a :: l.take i ++ [x]
    rw [ih]
    rfl
theorem drop_cons' {α : Type} : ∀ {l : List α} {i : Nat} {x : α}, l[i]? = some x → l.drop i = x :: l.drop (i + 1)
  | [], i, x, h => by simp at h
  | a :: l, 0, x, h => by
    have e : a = x := Option.some.inj h
    subst e
    rfl
  | a :: l, i + 1, x, h => drop_cons' (l := l) (i := i) (x := x) h
theorem range_snoc (n : Nat) : List.range (n + 1) = List.range n ++ [n] := List.range_succ
/-! ### a row over the nets -/
theorem set_range {α : Type} (f : Nat → α) (n j : Nat) (v : α) : ((List.range n).map f).set j v = (List.range n).map (fun g => if g = j then v else f g) := by
  apply List.ext_getElem?
  intro i
  rw [List.getElem?_set, List.getElem?_map, List.getElem?_map]
  by_cases h : j = i
  · subst h
    rw [if_pos rfl, List.length_map, List.length_range]
    by_cases hj : j < n
    · rw [if_pos hj, List.getElem?_range hj]; simp
    · rw [if_neg hj, List.getElem?_eq_none (by simp; omega)]; rfl
  · rw [if_neg h]
    by_cases hj : i < n
    · rw [List.getElem?_range hj]; simp [Ne.symm h]
    · rw [List.getElem?_eq_none (by simp; omega)]; rfl
theorem get_rangeMap {α : Type} (f : Nat → α) {n j : Nat} (h : j < n) : ((List.range n).map f)[j]? = some (f j) := by
  rw [List.getElem?_map, List.getElem?_range h]; rfl
theorem replicate_range {α : Type} (v : α) (n : Nat) : List.replicate n v = (List.range n).map (fun _ => v) := by
  rw [List.map_const']; simp
/-! ### the chips that pull -/
def drives0 (c : Chip) : List Nat := if c.instruction = 0 then ((c.made.cells.zip c.bits).filter fun x => x.1.drives && !x.2).map fun x => x.1.net else []
def pullBy (j : Nat → Nat) (l : List Nat) (g : Nat) : Bool := l.any fun net => j net == g
theorem any_filter' {α : Type} (p q : α → Bool) : ∀ l : List α, (l.filter p).any q = l.any fun x => p x && q x
  | [] => rfl
  | a :: l => by
    rw [List.filter_cons]
    cases h : p a <;> simp [any_filter' p q l, h]
theorem pulled_eq (b : Board) (g : Nat) : pulled b g = b.chips.any fun c => pullBy (groupOf b) (drives0 c) g := by
  unfold pulled
  congr 1
  funext c
  unfold pullBy drives0
  by_cases h : c.instruction = 0
  · rw [if_pos h, List.any_map, any_filter', h]
    simp only [Function.comp_def, BEq.rfl, Bool.true_and]
    congr 1
    funext x
    cases x.1.drives <;> cases x.2 <;> simp
  · rw [if_neg h]
    have : (c.instruction == 0) = false := by simpa using h
    rw [this]; rfl
theorem heldAt_eq (b : Board) (g k : Nat) : heldAt b g k = (List.range b.nets).any fun i => groupOf b i == g && b.held.getD i 0 == k := by
  unfold heldAt inGroup
  rw [Bool.eq_iff_iff]
  simp only [List.any_eq_true, List.mem_range, Bool.and_eq_true, decide_eq_true_eq]
  constructor
  · rintro ⟨i, h1, ⟨_, h2⟩, h3⟩; exact ⟨i, h1, h2, h3⟩
  · rintro ⟨i, h1, h2, h3⟩; exact ⟨i, h1, ⟨h1, h2⟩, h3⟩
theorem any_range_snoc (p : Nat → Bool) (n : Nat) : (List.range (n + 1)).any p = ((List.range n).any p || p n) := by
  rw [List.range_succ, List.any_append]; simp
theorem any_take_snoc {α : Type} (p : α → Bool) {l : List α} {i : Nat} {x : α} (h : l[i]? = some x) : (l.take (i + 1)).any p = ((l.take i).any p || p x) := by
  rw [take_snoc h, List.any_append]; simp
/-! ### the next state -/
def nextTab : List (Nat × Nat) := [(1, 0), (1, 2), (3, 9), (4, 5), (4, 5), (6, 8), (6, 7), (4, 8), (1, 2), (10, 0), (11, 12), (11, 12), (13, 15), (13, 14), (11, 15), (1, 2)]
theorem next_eq (s : Nat) (m : Bool) {a b : Nat} (h : nextTab[s]? = some (a, b)) : nextState s m = if m then b else a := by
  unfold nextState
  show (nextTab.map fun x => if m then x.2 else x.1).getD s 0 = _
  rw [List.getD_eq_getElem?_getD, List.getElem?_map, h]; rfl
theorem next_le (s : Nat) (m : Bool) : nextState s m ≤ 15 := by
  by_cases h : s < 16
  · have a : ∀ (s : _root_.Fin 16) (m : Bool), nextState s.1 m ≤ 15 := by decide
    exact a ⟨s, h⟩ m
  · unfold nextState
    rw [List.getD_eq_getElem?_getD, List.getElem?_eq_none (by simp; omega)]; decide
/-- states 4 to 8 are come to from 3 to 7 alone -/
theorem next_mid (s : Nat) (m : Bool) (h : s ≤ 15) (h1 : 4 ≤ nextState s m) (h2 : nextState s m ≤ 8) : 3 ≤ s ∧ s ≤ 7 := by
  have a : ∀ (s : _root_.Fin 16) (m : Bool), 4 ≤ nextState s.1 m → nextState s.1 m ≤ 8 → 3 ≤ s.1 ∧ s.1 ≤ 7 := by decide
  exact a ⟨s, by omega⟩ m h1 h2
theorem next_tab (s : Nat) (h : s ≤ 15) : ∃ a b, nextTab[s]? = some (a, b) := by
  have hl : s < nextTab.length := by show s < 16; omega
  exact ⟨_, _, List.getElem?_eq_getElem hl⟩
end Cc

end

section
set_option Elab.async false
set_option linter.all false
namespace Cc
open Kh264
structure ChipWf (nets : Nat) (c : Chip) : Prop where
  ir2 : 2 ≤ c.made.ir
  ir32 : c.made.ir ≤ 32
  cells : c.made.cells.length ≤ 64
  nets : ∀ x ∈ c.made.cells, x.net < nets
  bits : c.bits.length = c.made.cells.length
  irl : c.ir.length = c.made.ir
  dr1 : 1 ≤ c.dr.length
  dr64 : c.dr.length ≤ 64
structure BoardWf (b : Board) : Prop where
  n1 : 1 ≤ b.nets
  n64 : b.nets ≤ 64
  jl : b.joined.length = b.nets
  hl : b.held.length = b.nets
  jle : ∀ i, i < b.nets → groupOf b i ≤ i
  st : b.state ≤ 15
  nch : b.chips.length ≤ 8
  chips : ∀ c ∈ b.chips, ChipWf b.nets c
  mid : 4 ≤ b.state → b.state ≤ 8 → ∀ c ∈ b.chips, c.instruction ≤ 1 → c.made.cells ≠ [] → c.dr.length = c.made.cells.length
/-! ### a row that is changed item by item -/
theorem get_mid {α : Type} {l ds : List α} {i : Nat} (h : ds.length = i) : (ds ++ l.drop i)[i]? = l[i]? := by
  rw [List.getElem?_append_right (by omega), List.getElem?_drop, h, Nat.sub_self, Nat.add_zero]
theorem set_mid {α : Type} {l ds : List α} {i : Nat} {c c' : α} (h : ds.length = i) (hc : l[i]? = some c) : (ds ++ l.drop i).set i c' = (ds ++ [c']) ++ l.drop (i + 1) := by
  rw [drop_cons' hc, List.set_append_right _ _ (by omega), h, Nat.sub_self, List.set_cons_zero, List.append_assoc]; rfl
theorem len_mid {α β : Type} {l : List α} {i : Nat} (f : α → β) (h : i ≤ l.length) : ((l.take i).map f).length = i := by
  rw [List.length_map, List.length_take]; omega
theorem map_snoc {α β : Type} {l : List α} {i : Nat} {c : α} (f : α → β) (hc : l[i]? = some c) : (l.take (i + 1)).map f = (l.take i).map f ++ [f c] := by
  rw [take_snoc hc, List.map_append]; rfl
/-! ### the chain -/
def shC (get : Chip → List Bool) (put : Chip → List Bool → Chip) : Bool → List Chip → List Chip × Bool
  | x, [] => ([], x)
  | x, c :: r => (put c ((get c).drop 1 ++ [x]) :: (shC get put ((get c).headD false) r).1, (shC get put ((get c).headD false) r).2)
theorem shC_eq (get : Chip → List Bool) (put : Chip → List Bool → Chip) : ∀ (l : List Chip) (x : Bool), List.zipWith put l (shifted x (l.map get)).1 = (shC get put x l).1 ∧ (shifted x (l.map get)).2 = (shC get put x l).2
  | [], x => ⟨rfl, rfl⟩
  | c :: r, x => by
    have ih := shC_eq get put r ((get c).headD false)
    constructor
    · show put c ((get c).drop 1 ++ [x]) :: List.zipWith put r (shifted ((get c).headD false) (r.map get)).1 = _
      rw [ih.1]; rfl
    · show (shifted ((get c).headD false) (r.map get)).2 = _
      rw [ih.2]; rfl
theorem shC_mem (get : Chip → List Bool) (put : Chip → List Bool → Chip) : ∀ (l : List Chip) (x : Bool) (c' : Chip), c' ∈ (shC get put x l).1 → ∃ c ∈ l, ∃ y, c' = put c ((get c).drop 1 ++ [y])
  | [], x, c', h => by simp [shC] at h
  | c :: r, x, c', h => by
    simp only [shC, List.mem_cons] at h
    rcases h with h | h
    · exact ⟨c, by simp, x, h⟩
    · obtain ⟨d, hd, y, e⟩ := shC_mem get put r _ c' h
      exact ⟨d, by simp [hd], y, e⟩
theorem shC_len (get : Chip → List Bool) (put : Chip → List Bool → Chip) : ∀ (l : List Chip) (x : Bool), (shC get put x l).1.length = l.length
  | [], x => rfl
  | c :: r, x => by simp [shC, shC_len get put r]
/-! ### what is done in each state -/
abbrev putDr (c : Chip) (l : List Bool) : Chip := { c with dr := l }
abbrev putIr (c : Chip) (l : List Bool) : Chip := { c with ir := l }
abbrev takeDr (b : Board) (c : Chip) : Chip := { c with dr := taken b c }
abbrev takeIr (c : Chip) : Chip := { c with ir := bitsOf 1 c.made.ir }
def setBits (c : Chip) : Chip := match kind c with
  | .cells => { c with bits := (c.made.cells.zip (c.bits.zip c.dr)).map fun x => if x.1.drives then x.2.2 else x.2.1 }
  | _ => c
abbrev setIr (c : Chip) : Chip := { c with instruction := numberOf c.ir }
theorem act0 {b : Board} {x : Bool} (h : b.state = 0) : act b x = ({ b with chips := b.chips.map reset }, true) := by
  obtain ⟨bc, bn, bj, bh, bs⟩ := b
  have e : bs = 0 := h
  subst e
  rfl
theorem act3 {b : Board} {x : Bool} (h : b.state = 3) : act b x = ({ b with chips := b.chips.map (takeDr b) }, true) := by
  obtain ⟨bc, bn, bj, bh, bs⟩ := b
  have e : bs = 3 := h
  subst e
  rfl
theorem act10 {b : Board} {x : Bool} (h : b.state = 10) : act b x = ({ b with chips := b.chips.map takeIr }, true) := by
  obtain ⟨bc, bn, bj, bh, bs⟩ := b
  have e : bs = 10 := h
  subst e
  rfl
theorem act8 {b : Board} {x : Bool} (h : b.state = 8) : act b x = ({ b with chips := b.chips.map setBits }, true) := by
  obtain ⟨bc, bn, bj, bh, bs⟩ := b
  have e : bs = 8 := h
  subst e
  rfl
theorem act15 {b : Board} {x : Bool} (h : b.state = 15) : act b x = ({ b with chips := b.chips.map setIr }, true) := by
  obtain ⟨bc, bn, bj, bh, bs⟩ := b
  have e : bs = 15 := h
  subst e
  rfl
theorem act4 {b : Board} {x : Bool} (h : b.state = 4) : act b x = ({ b with chips := (shC Chip.dr putDr x b.chips).1 }, (shC Chip.dr putDr x b.chips).2) := by
  have e := shC_eq Chip.dr putDr b.chips x
  rw [← e.1, ← e.2]
  obtain ⟨bc, bn, bj, bh, bs⟩ := b
  have e : bs = 4 := h
  subst e
  rfl
theorem act11 {b : Board} {x : Bool} (h : b.state = 11) : act b x = ({ b with chips := (shC Chip.ir putIr x b.chips).1 }, (shC Chip.ir putIr x b.chips).2) := by
  have e := shC_eq Chip.ir putIr b.chips x
  rw [← e.1, ← e.2]
  obtain ⟨bc, bn, bj, bh, bs⟩ := b
  have e : bs = 11 := h
  subst e
  rfl
theorem act_else {b : Board} {x : Bool} (h0 : b.state ≠ 0) (h3 : b.state ≠ 3) (h10 : b.state ≠ 10) (h4 : b.state ≠ 4) (h11 : b.state ≠ 11) (h8 : b.state ≠ 8) (h15 : b.state ≠ 15) : act b x = (b, true) := by
  unfold act
  split <;> first | rfl | contradiction
/-! ### what holds of a chip stays -/
theorem taken_len {b : Board} {c : Chip} {n : Nat} (w : ChipWf n c) : 1 ≤ (taken b c).length ∧ (taken b c).length ≤ 64 := by
  unfold taken
  split
  · rename_i hk
    have hc : c.made.cells ≠ [] := by
      unfold kind at hk
      split at hk
      · rename_i h; exact h.2
      · split at hk <;> cases hk
    have h0 : 1 ≤ c.made.cells.length := by
      cases e : c.made.cells with
      | nil => exact absurd e hc
      | cons a l => simp
    have h1 := w.cells
    have h2 := w.bits
    rw [List.length_map, List.length_zip]; omega
  · unfold bitsOf; simp
  · simp
theorem taken_cells {b : Board} {c : Chip} {n : Nat} (w : ChipWf n c) (h1 : c.instruction ≤ 1) (h2 : c.made.cells ≠ []) : (taken b c).length = c.made.cells.length := by
  have hk : kind c = .cells := by unfold kind; rw [if_pos ⟨h1, h2⟩]
  unfold taken
  rw [hk]
  have h2 := w.bits
  simp only [List.length_map, List.length_zip]; omega
theorem wf_reset {n : Nat} {c : Chip} (w : ChipWf n c) : ChipWf n (reset c) := ⟨w.ir2, w.ir32, w.cells, w.nets, w.bits, w.irl, w.dr1, w.dr64⟩
theorem wf_takeDr {n : Nat} {c : Chip} (b : Board) (w : ChipWf n c) : ChipWf n (takeDr b c) := ⟨w.ir2, w.ir32, w.cells, w.nets, w.bits, w.irl, (taken_len w).1, (taken_len w).2⟩
theorem wf_takeIr {n : Nat} {c : Chip} (w : ChipWf n c) : ChipWf n (takeIr c) := ⟨w.ir2, w.ir32, w.cells, w.nets, w.bits, by show (bitsOf 1 c.made.ir).length = c.made.ir; unfold bitsOf; simp, w.dr1, w.dr64⟩
theorem wf_setIr {n : Nat} {c : Chip} (w : ChipWf n c) : ChipWf n (setIr c) := ⟨w.ir2, w.ir32, w.cells, w.nets, w.bits, w.irl, w.dr1, w.dr64⟩
theorem wf_putDr {n : Nat} {c : Chip} (y : Bool) (w : ChipWf n c) : ChipWf n (putDr c (c.dr.drop 1 ++ [y])) := by
  have h1 := w.dr1
  have h2 := w.dr64
  refine ⟨w.ir2, w.ir32, w.cells, w.nets, w.bits, w.irl, ?_, ?_⟩ <;> simp <;> omega
theorem wf_putIr {n : Nat} {c : Chip} (y : Bool) (w : ChipWf n c) : ChipWf n (putIr c (c.ir.drop 1 ++ [y])) := by
  have h1 := w.irl
  have h2 := w.ir2
  refine ⟨w.ir2, w.ir32, w.cells, w.nets, w.bits, ?_, w.dr1, w.dr64⟩
  simp; omega
/-- in state 8 the bits that are set are as many as there were -/
theorem wf_setBits {n : Nat} {c : Chip} (w : ChipWf n c) (h : c.instruction ≤ 1 → c.made.cells ≠ [] → c.dr.length = c.made.cells.length) : ChipWf n (setBits c) := by
  unfold setBits
  split
  · rename_i hk
    have hc : c.instruction ≤ 1 ∧ c.made.cells ≠ [] := by
      unfold kind at hk
      split at hk
      · rename_i h; exact h
      · split at hk <;> cases hk
    have h3 := h hc.1 hc.2
    have h2 := w.bits
    refine ⟨w.ir2, w.ir32, w.cells, w.nets, ?_, w.irl, w.dr1, w.dr64⟩
    simp only [List.length_map, List.length_zip]; omega
  · exact w
theorem setBits_same (c : Chip) : (setBits c).made = c.made ∧ (setBits c).instruction = c.instruction ∧ (setBits c).dr = c.dr := by
  unfold setBits; split <;> exact ⟨rfl, rfl, rfl⟩
theorem act_same (b : Board) (x : Bool) : (act b x).1.nets = b.nets ∧ (act b x).1.joined = b.joined ∧ (act b x).1.held = b.held := by
  unfold act; split <;> exact ⟨rfl, rfl, rfl⟩
theorem wf_clock {b : Board} (w : BoardWf b) (m x : Bool) : BoardWf (clock b m x).1 := by
  obtain ⟨e1, e2, e3⟩ := act_same b x
  have key : (∀ c ∈ (act b x).1.chips, ChipWf b.nets c) ∧ (act b x).1.chips.length ≤ 8 ∧ (3 ≤ b.state → b.state ≤ 7 → ∀ c ∈ (act b x).1.chips, c.instruction ≤ 1 → c.made.cells ≠ [] → c.dr.length = c.made.cells.length) := by
    have n8 := w.nch
    by_cases h0 : b.state = 0
    · rw [act0 h0]
      refine ⟨fun c hc => ?_, by simpa using n8, fun h => by omega⟩
      obtain ⟨d, hd, rfl⟩ := List.mem_map.mp hc
      exact wf_reset (w.chips d hd)
    by_cases h3 : b.state = 3
    · rw [act3 h3]
      refine ⟨fun c hc => ?_, by simpa using n8, fun _ _ c hc i1 i2 => ?_⟩
      · obtain ⟨d, hd, rfl⟩ := List.mem_map.mp hc
        exact wf_takeDr b (w.chips d hd)
      · obtain ⟨d, hd, rfl⟩ := List.mem_map.mp hc
        exact taken_cells (w.chips d hd) i1 i2
    by_cases h10 : b.state = 10
    · rw [act10 h10]
      refine ⟨fun c hc => ?_, by simpa using n8, fun _ h => by omega⟩
      obtain ⟨d, hd, rfl⟩ := List.mem_map.mp hc
      exact wf_takeIr (w.chips d hd)
    by_cases h4 : b.state = 4
    · rw [act4 h4]
      refine ⟨fun c hc => ?_, by rw [shC_len]; exact n8, fun _ _ c hc i1 i2 => ?_⟩
      · obtain ⟨d, hd, y, rfl⟩ := shC_mem _ _ _ _ _ hc
        exact wf_putDr y (w.chips d hd)
      · obtain ⟨d, hd, y, rfl⟩ := shC_mem _ _ _ _ _ hc
        have q := w.mid (by omega) (by omega) d hd i1 i2
        have q1 := (w.chips d hd).dr1
        simp; omega
    by_cases h11 : b.state = 11
    · rw [act11 h11]
      refine ⟨fun c hc => ?_, by rw [shC_len]; exact n8, fun _ h => by omega⟩
      obtain ⟨d, hd, y, rfl⟩ := shC_mem _ _ _ _ _ hc
      exact wf_putIr y (w.chips d hd)
    by_cases h8 : b.state = 8
    · rw [act8 h8]
      refine ⟨fun c hc => ?_, by simpa using n8, fun _ h => by omega⟩
      obtain ⟨d, hd, rfl⟩ := List.mem_map.mp hc
      exact wf_setBits (w.chips d hd) (w.mid (by omega) (by omega) d hd)
    by_cases h15 : b.state = 15
    · rw [act15 h15]
      refine ⟨fun c hc => ?_, by simpa using n8, fun _ h => by omega⟩
      obtain ⟨d, hd, rfl⟩ := List.mem_map.mp hc
      exact wf_setIr (w.chips d hd)
    · rw [act_else h0 h3 h10 h4 h11 h8 h15]
      exact ⟨w.chips, n8, fun a1 a2 => w.mid (by omega) (by omega)⟩
  have g : (clock b m x).1 = { (act b x).1 with state := nextState b.state m } := rfl
  rw [g]
  refine ⟨by show 1 ≤ (act b x).1.nets; rw [e1]; exact w.n1, by show (act b x).1.nets ≤ 64; rw [e1]; exact w.n64, by show (act b x).1.joined.length = (act b x).1.nets; rw [e1, e2]; exact w.jl,
    by show (act b x).1.held.length = (act b x).1.nets; rw [e1, e3]; exact w.hl, fun i hi => ?_, next_le _ _, key.2.1, fun c hc => ?_, fun h1 h2 => ?_⟩
  · show (act b x).1.joined.getD i 0 ≤ i
    rw [e2]
    exact w.jle i (by rw [← e1]; exact hi)
  · show ChipWf (act b x).1.nets c
    rw [e1]
    exact key.1 c hc
  · have q := next_mid b.state m w.st h1 h2
    exact key.2.2 q.1 q.2
end Cc

end

section
set_option Elab.async false
set_option linter.all false
namespace Cc
open Kh264 Kh264Neutral
/-! ### rows of chips and of cells -/
def chipI (c : Made) : List Int := [(c.id : Int), (c.ir : Int), bi c.hasId, (c.cells.length : Int)]
def cellI (x : Cell) : List Int := [(x.net : Int), bi x.drives]
def chipsI (ms : List Made) : List Int := ms.flatMap chipI
def cellsI (cs : List Cell) : List Int := cs.flatMap cellI
def allI (ms : List Made) : List Int := ms.flatMap fun c => cellsI c.cells
def firstC (n : Nat) (l : List Int) : List Cell := (List.range n).map fun (i : Nat) => (⟨nat (l.getD (2 * i) 0), l.getD (2 * i + 1) 0 == 1⟩ : Cell)
theorem getD_cons4 (a b c d : Int) (l : List Int) (i : Nat) : (a :: b :: c :: d :: l).getD (i + 4) 0 = l.getD i 0 := rfl
theorem counts_cons (a b c d : Int) (l : List Int) : counts (a :: b :: c :: d :: l) = nat d :: counts l := by
  unfold counts
  have e : (a :: b :: c :: d :: l).length / 4 = l.length / 4 + 1 := by simp only [List.length_cons]; omega
  rw [e, List.range_succ_eq_map, List.map_cons, List.map_map]
  congr 1
theorem chipsOf_cons (a b c d : Int) (l cells : List Int) : chipsOf (a :: b :: c :: d :: l) cells = ⟨nat a, nat b, c == 1, 0, firstC (nat d) cells⟩ :: chipsOf l (cells.drop (2 * nat d)) := by
  unfold chipsOf
  have e : (a :: b :: c :: d :: l).length / 4 = l.length / 4 + 1 := by simp only [List.length_cons]; omega
  simp only []
  rw [e, List.range_succ_eq_map, List.map_cons, List.map_map, counts_cons]
  congr 1
theorem firstC_cons (n : Nat) (x y : Int) (r : List Int) : firstC (n + 1) (x :: y :: r) = ⟨nat x, y == 1⟩ :: firstC n r := by
  unfold firstC
  rw [List.range_succ_eq_map, List.map_cons, List.map_map]
  congr 1
theorem firstC_len (n : Nat) (l : List Int) : (firstC n l).length = n := by unfold firstC; simp
def okCell (l : List Int) : Prop := ∀ i, i < l.length → if i % 2 = 1 then 0 ≤ l.getD i 0 ∧ l.getD i 0 ≤ 1 else 0 ≤ l.getD i 0
def okChip (l : List Int) : Prop := ∀ i, i < l.length → if i % 4 = 2 then 0 ≤ l.getD i 0 ∧ l.getD i 0 ≤ 1 else 0 ≤ l.getD i 0
theorem bi_beq {y : Int} (h0 : 0 ≤ y) (h1 : y ≤ 1) : bi (y == 1) = y := by
  have : y = 0 ∨ y = 1 := by omega
  rcases this with e | e <;> subst e <;> rfl
theorem okCell_drop2 {x y : Int} {r : List Int} (h : okCell (x :: y :: r)) : 0 ≤ x ∧ 0 ≤ y ∧ y ≤ 1 ∧ okCell r := by
  have h0 := h 0 (by simp)
  have h1 := h 1 (by simp)
  refine ⟨h0, h1.1, h1.2, fun i hi => ?_⟩
  have q := h (i + 2) (by simp; omega)
  have e : (i + 2) % 2 = i % 2 := by omega
  rw [e] at q
  exact q
theorem cells_read : ∀ (n : Nat) (l : List Int), okCell l → 2 * n ≤ l.length → cellsI (firstC n l) = l.take (2 * n) ∧ okCell (l.drop (2 * n))
  | 0, l, h, _ => ⟨rfl, h⟩
  | n + 1, [], _, hl => by simp at hl
  | n + 1, [_], _, hl => by simp at hl; omega
  | n + 1, x :: y :: r, h, hl => by
    obtain ⟨hx, hy0, hy1, hr⟩ := okCell_drop2 h
    have hl' : 2 * n ≤ r.length := by simp at hl; omega
    obtain ⟨e1, e2⟩ := cells_read n r hr hl'
    have e : 2 * (n + 1) = 2 * n + 2 := by omega
    rw [e, firstC_cons]
    refine ⟨?_, e2⟩
    show cellI ⟨nat x, y == 1⟩ ++ cellsI (firstC n r) = x :: y :: r.take (2 * n)
    rw [e1]
    show (nat x : Int) :: bi (y == 1) :: r.take (2 * n) = _
    rw [bi_beq hy0 hy1]
    congr 1
    exact Int.toNat_of_nonneg hx
theorem okChip_drop4 {a b c d : Int} {l : List Int} (h : okChip (a :: b :: c :: d :: l)) : 0 ≤ a ∧ 0 ≤ b ∧ 0 ≤ c ∧ c ≤ 1 ∧ 0 ≤ d ∧ okChip l := by
  have h0 := h 0 (by simp)
  have h1 := h 1 (by simp)
  have h2 := h 2 (by simp)
  have h3 := h 3 (by simp)
  refine ⟨h0, h1, h2.1, h2.2, h3, fun i hi => ?_⟩
  have q := h (i + 4) (by simp; omega)
  have e : (i + 4) % 4 = i % 4 := by omega
  rw [e] at q
  exact q
theorem chips_read : ∀ (k : Nat) (l cells : List Int), l.length = 4 * k → okChip l → okCell cells → cells.length = 2 * (counts l).sum →
    chipsI (chipsOf l cells) = l ∧ allI (chipsOf l cells) = cells ∧ (chipsOf l cells).length = k ∧ (∀ c ∈ chipsOf l cells, c.none = 0)
  | 0, l, cells, hl, _, _, hc => by
    have e : l = [] := List.eq_nil_of_length_eq_zero (by omega)
    subst e
    have e3 : (counts []).sum = 0 := rfl
    rw [e3] at hc
    have e2 : cells = [] := List.eq_nil_of_length_eq_zero hc
    subst e2
    exact ⟨rfl, rfl, rfl, fun c h => by simp [chipsOf] at h⟩
  | k + 1, l, cells, hl, h, hce, hc => by
    match l, hl, h, hc with
    | [], hl, _, _ => simp at hl
    | [_], hl, _, _ => simp at hl; omega
    | [_, _], hl, _, _ => simp at hl; omega
    | [_, _, _], hl, _, _ => simp at hl; omega
    | a :: b :: c :: d :: l, hl, h, hc =>
      obtain ⟨ha, hb, hc0, hc1, hd, hr⟩ := okChip_drop4 h
      have hl' : l.length = 4 * k := by simp at hl; omega
      rw [counts_cons, List.sum_cons] at hc
      obtain ⟨e1, e2⟩ := cells_read (nat d) cells hce (by omega)
      obtain ⟨i1, i2, i3, i4⟩ := chips_read k l (cells.drop (2 * nat d)) hl' hr e2 (by rw [List.length_drop]; omega)
      rw [chipsOf_cons]
      refine ⟨?_, ?_, by simp [i3], fun q hq => ?_⟩
      · show chipI ⟨nat a, nat b, c == 1, 0, firstC (nat d) cells⟩ ++ chipsI (chipsOf l (cells.drop (2 * nat d))) = _
        rw [i1]
        show (nat a : Int) :: (nat b : Int) :: bi (c == 1) :: ((firstC (nat d) cells).length : Int) :: l = _
        rw [bi_beq hc0 hc1, firstC_len]
        have x1 : (nat a : Int) = a := Int.toNat_of_nonneg ha
        have x2 : (nat b : Int) = b := Int.toNat_of_nonneg hb
        have x3 : (nat d : Int) = d := Int.toNat_of_nonneg hd
        rw [x1, x2, x3]
      · show cellsI (firstC (nat d) cells) ++ allI (chipsOf l (cells.drop (2 * nat d))) = cells
        rw [e1, i2, List.take_append_drop]
      · rcases List.mem_cons.mp hq with e | e
        · subst e; rfl
        · exact i4 q e
theorem fit_read {l cells : List Int} (h : fit l cells = true) : ∃ ms : List Made, chipsOf l cells = ms ∧ chipsI ms = l ∧ allI ms = cells ∧ (∀ c ∈ ms, c.none = 0) ∧ ms.length ≤ 9 := by
  unfold fit at h
  simp only [Bool.and_eq_true, decide_eq_true_eq] at h
  obtain ⟨h1, h2, h3, h4, h5⟩ := h
  have a1 : okChip l := fun i hi => by
    have q := List.all_eq_true.mp h3 i (List.mem_range.mpr hi)
    by_cases e : i % 4 = 2
    · rw [if_pos e] at q ⊢
      simp only [within, Bool.and_eq_true, decide_eq_true_eq] at q
      exact q
    · rw [if_neg e] at q ⊢
      by_cases e3 : i % 4 = 3
      · rw [if_pos e3] at q
        simp only [within, Bool.and_eq_true, decide_eq_true_eq] at q
        exact q.1
      · rw [if_neg e3] at q
        simp only [natural, Bool.and_eq_true, decide_eq_true_eq] at q
        exact q.1
  have a2 : okCell cells := fun i hi => by
    have q := List.all_eq_true.mp h5 i (List.mem_range.mpr hi)
    by_cases e : i % 2 = 1
    · rw [if_pos e] at q ⊢
      simp only [within, Bool.and_eq_true, decide_eq_true_eq] at q
      exact q
    · rw [if_neg e] at q ⊢
      simp only [within, Bool.and_eq_true, decide_eq_true_eq] at q
      exact q.1
  obtain ⟨i1, i2, i3, i4⟩ := chips_read (l.length / 4) l cells (by omega) a1 a2 h4
  exact ⟨_, rfl, i1, i2, i4, by omega⟩
/-! ### when a start is accepted -/
def okNet (j d : List Nat) (i : Nat) : Bool := decide (j.getD i 0 ≤ i) && (j.getD (j.getD i 0) 0 == j.getD i 0 && decide (d.getD i 0 ≤ 2))
def okNets (n : Nat) (j d : List Nat) : Bool := decide (1 ≤ n) && (decide (n ≤ 64) && (List.range n).all (okNet j d))
def okOne (c : Made) : Bool := decide (2 ≤ c.ir) && (decide (c.ir ≤ 32) && decide (c.cells.length ≤ 64))
def okChips (ms : List Made) : Bool := decide (1 ≤ ms.length) && (decide (ms.length ≤ 8) && ms.all okOne)
def okCells (ms : List Made) (n : Nat) : Bool := ms.all fun c => c.cells.all fun x => decide (x.net < n)
theorem okStart_eq {ms : List Made} {nets s : Nat} {j d : List Nat} (h : ∀ c ∈ ms, c.none = 0) : okStart ms ms.length nets j d s = ((decide (s ≤ 15) && okNets nets j d) && (okChips ms && okCells ms nets)) := by
  rw [Bool.eq_iff_iff]
  unfold okStart okMade okNets okChips okCells okOne
  simp only [Bool.and_eq_true, decide_eq_true_eq, List.all_eq_true, beq_self_eq_true, true_and, beq_iff_eq]
  constructor
  · rintro ⟨h1, h2, h3, h4, h5, h6, h7⟩
    exact ⟨⟨h6, h4, h5, fun i hi => by have q := h7 i hi; simpa [okNet] using q⟩, ⟨h1, h2, fun c hc => ⟨(h3 c hc).1, (h3 c hc).2.1, (h3 c hc).2.2.2.1⟩⟩, fun c hc => (h3 c hc).2.2.2.2⟩
  · rintro ⟨⟨h6, h4, h5, h7⟩, ⟨h1, h2, h3⟩, h8⟩
    exact ⟨h1, h2, fun c hc => ⟨(h3 c hc).1, (h3 c hc).2.1, h c hc, (h3 c hc).2.2, h8 c hc⟩, h4, h5, h6, fun i hi => by have q := h7 i hi; simpa [okNet] using q⟩
theorem wf_fresh {n : Nat} {c : Made} (h1 : okOne c = true) (h2 : ∀ x ∈ c.cells, x.net < n) : ChipWf n (fresh c) := by
  unfold okOne at h1
  simp only [Bool.and_eq_true, decide_eq_true_eq] at h1
  exact ⟨h1.1, h1.2.1, h1.2.2, h2, by show (List.replicate c.cells.length false).length = c.cells.length; simp, by show (List.replicate c.ir false).length = c.ir; simp, Nat.le_refl 1, by show 1 ≤ 64; decide⟩
theorem fresh_ins {c : Made} (h : 2 ≤ c.ir) : ¬ (fresh c).instruction ≤ 1 := by
  show ¬ (if c.hasId = true then 2 else 2 ^ c.ir - 1) ≤ 1
  by_cases e : c.hasId = true
  · rw [if_pos e]; decide
  · rw [if_neg e]
    have q : 2 ^ 2 ≤ 2 ^ c.ir := Nat.pow_le_pow_right (by decide) h
    omega
theorem wf_start {ms : List Made} {nets s : Nat} {j d : List Nat} (h : okStart ms ms.length nets j d s = true) (hn : ∀ c ∈ ms, c.none = 0) (hj : j.length = nets) (hd : d.length = nets) : BoardWf (Kh264.start ms nets j d s) := by
  rw [okStart_eq hn] at h
  simp only [Bool.and_eq_true, decide_eq_true_eq, okNets, okChips, okCells, List.all_eq_true] at h
  obtain ⟨⟨h1, h2, h3, h4⟩, ⟨h5, h6, h7⟩, h8⟩ := h
  refine ⟨h2, h3, hj, hd, fun i hi => ?_, h1, by show (ms.map fresh).length ≤ 8; simpa using h6, fun c hc => ?_, fun _ _ c hc hi => ?_⟩
  · have q := h4 i (List.mem_range.mpr hi)
    simp only [okNet, Bool.and_eq_true, decide_eq_true_eq] at q
    exact q.1
  · obtain ⟨m, hm, rfl⟩ := List.mem_map.mp hc
    exact wf_fresh (h7 m hm) (h8 m hm)
  · obtain ⟨m, hm, rfl⟩ := List.mem_map.mp hc
    have q := h7 m hm
    simp only [okOne, Bool.and_eq_true, decide_eq_true_eq] at q
    exact absurd hi (fresh_ins q.1)
/-! ### items of the flat rows -/
theorem chipsI_len : ∀ ms : List Made, (chipsI ms).length = 4 * ms.length
  | [] => rfl
  | c :: r => by
    show (chipI c ++ chipsI r).length = _
    rw [List.length_append, chipsI_len r, List.length_cons]
    show 4 + _ = _
    omega
theorem chipsI_at : ∀ {ms : List Made} {i : Nat} {c : Made} (k : Nat), ms[i]? = some c → k < 4 → (chipsI ms)[4 * i + k]? = (chipI c)[k]?
  | [], i, c, k, h, _ => by simp at h
  | m :: r, 0, c, k, h, hk => by
    have e : m = c := Option.some.inj h
    subst e
    show (chipI m ++ chipsI r)[4 * 0 + k]? = _
    rw [List.getElem?_append_left (by show 4 * 0 + k < 4; omega), Nat.mul_zero, Nat.zero_add]
  | m :: r, i + 1, c, k, h, hk => by
    have q := chipsI_at (ms := r) (i := i) (c := c) k h hk
    show (chipI m ++ chipsI r)[4 * (i + 1) + k]? = _
    rw [List.getElem?_append_right (by show 4 ≤ 4 * (i + 1) + k; omega), ← q]
    congr 1
    show 4 * (i + 1) + k - 4 = _
    omega
theorem cellsI_len : ∀ cs : List Cell, (cellsI cs).length = 2 * cs.length
  | [] => rfl
  | c :: r => by
    show (cellI c ++ cellsI r).length = _
    rw [List.length_append, cellsI_len r, List.length_cons]
    show 2 + _ = _
    omega
theorem cellsI_at0 : ∀ {cs : List Cell} {i : Nat}, (cellsI cs)[2 * i]? = (cs[i]?).map fun x => (x.net : Int)
  | [], i => by simp [cellsI]
  | m :: r, 0 => rfl
  | m :: r, i + 1 => by
    have q := cellsI_at0 (cs := r) (i := i)
    show (cellI m ++ cellsI r)[2 * (i + 1)]? = _
    rw [List.getElem?_append_right (by show 2 ≤ 2 * (i + 1); omega), List.getElem?_cons_succ, ← q]
    congr 1
theorem cellsI_at1 : ∀ {cs : List Cell} {i : Nat}, (cellsI cs)[2 * i + 1]? = (cs[i]?).map fun x => bi x.drives
  | [], i => by simp [cellsI]
  | m :: r, 0 => rfl
  | m :: r, i + 1 => by
    have q := cellsI_at1 (cs := r) (i := i)
    show (cellI m ++ cellsI r)[2 * (i + 1) + 1]? = _
    rw [List.getElem?_append_right (by show 2 ≤ 2 * (i + 1) + 1; omega), List.getElem?_cons_succ, ← q]
    congr 1
theorem allI_cells (ms : List Made) : allI ms = cellsI (ms.flatMap fun c => c.cells) := by
  unfold allI cellsI
  rw [List.flatMap_assoc]
theorem okCells_flat (ms : List Made) (n : Nat) : okCells ms n = (ms.flatMap fun c => c.cells).all fun x => decide (x.net < n) := by
  unfold okCells
  rw [List.all_flatMap]
/-- how many numbers the cells of the first i chips have -/
def offI (ms : List Made) (i : Nat) : Nat := ((ms.take i).map fun c => 2 * c.cells.length).sum
theorem offI_snoc {ms : List Made} {i : Nat} {c : Made} (h : ms[i]? = some c) : offI ms (i + 1) = offI ms i + 2 * c.cells.length := by
  unfold offI
  rw [take_snoc h, List.map_append, List.sum_append]; simp
theorem allI_cut : ∀ {ms : List Made} {i : Nat} {c : Made}, ms[i]? = some c → ((allI ms).drop (offI ms i)).take (2 * c.cells.length) = cellsI c.cells ∧ offI ms i + 2 * c.cells.length ≤ (allI ms).length
  | [], i, c, h => by simp at h
  | m :: r, 0, c, h => by
    have e : m = c := Option.some.inj h
    subst e
    show ((cellsI m.cells ++ allI r).drop 0).take (2 * m.cells.length) = _ ∧ 0 + 2 * m.cells.length ≤ (cellsI m.cells ++ allI r).length
    have q := cellsI_len m.cells
    rw [List.drop_zero, ← q, List.take_append_of_le_length (Nat.le_refl _), List.take_length, List.length_append]
    exact ⟨rfl, by omega⟩
  | m :: r, i + 1, c, h => by
    obtain ⟨q1, q2⟩ := allI_cut (ms := r) (i := i) (c := c) h
    have e : offI (m :: r) (i + 1) = (cellsI m.cells).length + offI r i := by
      rw [cellsI_len]
      show ((m :: r.take i).map fun c => 2 * c.cells.length).sum = _
      rw [List.map_cons, List.sum_cons]; rfl
    show ((cellsI m.cells ++ allI r).drop (offI (m :: r) (i + 1))).take (2 * c.cells.length) = _ ∧ offI (m :: r) (i + 1) + 2 * c.cells.length ≤ (cellsI m.cells ++ allI r).length
    rw [e, List.drop_append, List.length_append]
    refine ⟨?_, by omega⟩
    rw [List.drop_eq_nil_of_le (Nat.le_add_right _ _), List.nil_append, Nat.add_sub_cancel_left]
    exact q1
end Cc

end

section
set_option Elab.async false
set_option linter.all false
namespace Cc
open Kh264 Kh264Neutral
/-! ### the list of calls, from the left -/
theorem whole_id (c : List (List Int)) : PyKh264.whole c = c := by
  unfold PyKh264.whole
  split <;> rfl
theorem row_inv {l x s : List Int} (h : PyFlat.row l = some (x, s)) : ∃ n r, l = n :: r ∧ 0 ≤ n ∧ n.toNat ≤ r.length ∧ x = r.take n.toNat ∧ s = r.drop n.toNat := by
  cases l with
  | nil => cases h
  | cons n r =>
    have h' : (if 0 ≤ n ∧ n.toNat ≤ r.length then some (r.take n.toNat, r.drop n.toNat) else none) = some (x, s) := h
    by_cases k : 0 ≤ n ∧ n.toNat ≤ r.length
    · rw [if_pos k] at h'
      obtain ⟨e1, e2⟩ := Prod.mk.inj (Option.some.inj h')
      exact ⟨n, r, rfl, k.1, k.2, e1.symm, e2.symm⟩
    · rw [if_neg k] at h'; cases h'
theorem rows_inv {k : Nat} {l : List Int} {xs : List (List Int)} {t : List Int} (h : PyFlat.rows (k + 1) l = some (xs, t)) : ∃ x s ys, PyFlat.row l = some (x, s) ∧ PyFlat.rows k s = some (ys, t) ∧ xs = x :: ys := by
  unfold PyFlat.rows at h
  cases e : PyFlat.row l with
  | none => rw [e] at h; cases h
  | some q =>
    obtain ⟨x, s⟩ := q
    rw [e] at h
    simp only [] at h
    cases e2 : PyFlat.rows k s with
    | none => rw [e2] at h; cases h
    | some q2 =>
      obtain ⟨ys, u⟩ := q2
      rw [e2] at h
      obtain ⟨e4, e5⟩ := Prod.mk.inj (Option.some.inj h)
      subst e5
      exact ⟨x, s, ys, rfl, e2, e4.symm⟩
theorem rows0_inv {l : List Int} {xs : List (List Int)} {t : List Int} (h : PyFlat.rows 0 l = some (xs, t)) : xs = [] ∧ t = l := by
  obtain ⟨e1, e2⟩ := Prod.mk.inj (Option.some.inj (show some (([] : List (List Int)), l) = some (xs, t) from h))
  exact ⟨e1.symm, e2.symm⟩
theorem calls_nil {f : Nat} {cs : List (List (List Int))} (h : PyFlat.calls PyKh264.shape f [] = some cs) : cs = [] := by
  cases f <;> exact (Option.some.inj h).symm
theorem calls_cons {f : Nat} {p : Int} {r : List Int} {cs : List (List (List Int))} (h : PyFlat.calls PyKh264.shape f (p :: r) = some cs) :
    ∃ c t f' cs', PyFlat.call PyKh264.shape (p :: r) = some (c, t) ∧ PyFlat.calls PyKh264.shape f' t = some cs' ∧ cs = c :: cs' := by
  cases f with
  | zero => cases h
  | succ f =>
    unfold PyFlat.calls at h
    cases e : PyFlat.call PyKh264.shape (p :: r) with
    | none => rw [e] at h; cases h
    | some q =>
      obtain ⟨c, t⟩ := q
      rw [e] at h
      simp only [] at h
      cases e2 : PyFlat.calls PyKh264.shape f t with
      | none => rw [e2] at h; cases h
      | some cs' =>
        rw [e2] at h
        exact ⟨c, t, f, cs', rfl, e2, (Option.some.inj h).symm⟩
/-- one call and what stands behind it -/
inductive Got : List Int → List (List Int) → List Int → Prop
  | start {n s : Int} {l1 l2 l3 l4 t a b j d : List Int} (h1 : PyFlat.row l1 = some (a, l2)) (h2 : PyFlat.row l2 = some (b, l3)) (h3 : PyFlat.row l3 = some (j, l4)) (h4 : PyFlat.row l4 = some (d, t)) : Got (0 :: n :: s :: l1) [[0, n, s], a, b, j, d] t
  | clock {m x : Int} {t : List Int} : Got (1 :: m :: x :: t) [[1, m, x]] t
  | net {i : Int} {t : List Int} : Got (2 :: i :: t) [[2, i]] t
  | state {t : List Int} : Got (3 :: t) [[3]] t
theorem got_of {p : Int} {r t : List Int} {c : List (List Int)} (h : PyFlat.call PyKh264.shape (p :: r) = some (c, t)) : Got (p :: r) c t := by
  unfold PyFlat.call at h
  simp only [] at h
  have hs : PyKh264.shape p = if p = 0 then some (2, 4) else if p = 1 then some (2, 0) else if p = 2 then some (1, 0) else if p = 3 then some (0, 0) else none := rfl
  by_cases h0 : p = 0
  · subst h0
    rw [show PyKh264.shape 0 = some (2, 4) from rfl] at h
    simp only [] at h
    match r, h with
    | [], h => simp at h
    | [_], h => simp at h
    | n :: s :: l1, h =>
      rw [if_neg (by simp)] at h
      have e0 : (n :: s :: l1).drop 2 = l1 := rfl
      rw [e0] at h
      cases e : PyFlat.rows 4 l1 with
      | none => rw [e] at h; cases h
      | some q =>
        obtain ⟨xs, u⟩ := q
        rw [e] at h
        obtain ⟨e4, e5⟩ := Prod.mk.inj (Option.some.inj h)
        subst e5
        obtain ⟨a, l2, y1, g1, g1', rfl⟩ := rows_inv e
        obtain ⟨b, l3, y2, g2, g2', rfl⟩ := rows_inv g1'
        obtain ⟨j, l4, y3, g3, g3', rfl⟩ := rows_inv g2'
        obtain ⟨d, l5, y4, g4, g4', rfl⟩ := rows_inv g3'
        obtain ⟨rfl, rfl⟩ := rows0_inv g4'
        rw [← e4]
        exact .start g1 g2 g3 g4
  rw [if_neg h0] at hs
  by_cases h1 : p = 1
  · subst h1
    rw [show PyKh264.shape 1 = some (2, 0) from rfl] at h
    simp only [] at h
    match r, h with
    | [], h => simp at h
    | [_], h => simp at h
    | m :: x :: l1, h =>
      rw [if_neg (by simp)] at h
      obtain ⟨e4, e5⟩ := Prod.mk.inj (Option.some.inj (show some (([1, m, x] : List Int) :: [], l1) = some (c, t) from h))
      rw [← e4, ← e5]
      exact .clock
  rw [if_neg h1] at hs
  by_cases h2 : p = 2
  · subst h2
    rw [show PyKh264.shape 2 = some (1, 0) from rfl] at h
    simp only [] at h
    match r, h with
    | [], h => simp at h
    | i :: l1, h =>
      rw [if_neg (by simp)] at h
      obtain ⟨e4, e5⟩ := Prod.mk.inj (Option.some.inj (show some (([2, i] : List Int) :: [], l1) = some (c, t) from h))
      rw [← e4, ← e5]
      exact .net
  rw [if_neg h2] at hs
  by_cases h3 : p = 3
  · subst h3
    rw [show PyKh264.shape 3 = some (0, 0) from rfl] at h
    simp only [] at h
    rw [if_neg (by simp)] at h
    obtain ⟨e4, e5⟩ := Prod.mk.inj (Option.some.inj (show some (([3] : List Int) :: [], r) = some (c, t) from h))
    rw [← e4, ← e5]
    exact .state
  rw [if_neg h3] at hs
  rw [hs] at h
  cases h
/-! ### what is asked of the rest -/
abbrev askF (x : Bool × S) (c : Kh264Neutral.Call) : Bool × S := (x.1 && (x.2.isSome || (c.getD 0 []).headD 9 == 0), (step x.2 c).1)
theorem askF_false : ∀ (cs : List Kh264Neutral.Call) (s : S), (cs.foldl askF (false, s)).1 = false
  | [], _ => rfl
  | c :: cs, s => by
    show (cs.foldl askF (false && _, _)).1 = false
    rw [Bool.false_and]
    exact askF_false cs _
theorem askF_cons {c : Kh264Neutral.Call} {cs : List Kh264Neutral.Call} {s : S} (h : ((c :: cs).foldl askF (true, s)).1 = true) : (s.isSome || (c.getD 0 []).headD 9 == 0) = true ∧ (cs.foldl askF (true, (step s c).1)).1 = true := by
  have h' : (cs.foldl askF (true && (s.isSome || (c.getD 0 []).headD 9 == 0), (step s c).1)).1 = true := h
  rw [Bool.true_and] at h'
  cases e : (s.isSome || (c.getD 0 []).headD 9 == 0) with
  | true => rw [e] at h'; exact ⟨rfl, h'⟩
  | false => rw [e, askF_false] at h'; cases h'
/-- the calls that are left, at a state -/
structure Left (s : S) (l : List Int) (cs : List (List (List Int))) : Prop where
  read : ∃ f, PyFlat.calls PyKh264.shape f l = some cs
  ok1 : ∀ c ∈ cs, asked1 c = true
  okS : (cs.foldl askF (true, s)).1 = true
  few : cs.length ≤ 2000
theorem left_of {l : List Int} (h : PyKh264.answers_asked l = true) : ∃ cs, Left Kh264Neutral.start l cs ∧ PyKh264.answers l = PyFlat.told (PyFlat.played step Kh264Neutral.start cs) := by
  unfold PyKh264.answers_asked at h
  cases e : PyFlat.calls PyKh264.shape l.length l with
  | none =>
    rw [show PyKh264.calls l = none by unfold PyKh264.calls; rw [e]] at h
    cases h
  | some cs =>
    have hw : cs.map PyKh264.whole = cs := by
      rw [show PyKh264.whole = id from funext whole_id, List.map_id]
    have e2 : PyKh264.calls l = some cs := by unfold PyKh264.calls; rw [e]; simp only []; rw [hw]
    rw [e2] at h
    have h' : (PyFlat.atMost 2000 cs && asked cs) = true := h
    unfold asked at h'
    simp only [Bool.and_eq_true, decide_eq_true_eq] at h'
    obtain ⟨_, ⟨⟨_, q1⟩, q2⟩, q3⟩ := h'
    refine ⟨cs, ⟨⟨_, e⟩, fun c hc => List.all_eq_true.mp q2 c hc, q3, q1⟩, ?_⟩
    unfold PyKh264.answers
    rw [e2]
theorem left_nil {s : S} {cs : List (List (List Int))} (h : Left s [] cs) : cs = [] := by
  obtain ⟨f, e⟩ := h.read
  exact calls_nil e
theorem left_cons {s : S} {p : Int} {r : List Int} {cs : List (List (List Int))} (h : Left s (p :: r) cs) : ∃ c t cs', cs = c :: cs' ∧ Got (p :: r) c t ∧ asked1 c = true ∧ (s.isSome || (c.getD 0 []).headD 9 == 0) = true ∧ Left (step s c).1 t cs' := by
  obtain ⟨f, e⟩ := h.read
  obtain ⟨c, t, f', cs', e1, e2, e3⟩ := calls_cons e
  subst e3
  have q := askF_cons h.okS
  refine ⟨c, t, cs', rfl, got_of e1, h.ok1 c (by simp), q.1, ⟨f', e2⟩, fun d hd => h.ok1 d (by simp [hd]), q.2, ?_⟩
  have := h.few
  simp at this; omega
theorem told_cons (a : List Int) (r : List (List Int)) : PyFlat.told (a :: r) = ((a.length : Int) :: a) ++ PyFlat.told r := rfl
theorem played_cons (s : S) (c : List (List Int)) (r : List (List (List Int))) : PyFlat.played step s (c :: r) = (step s c).2 :: PyFlat.played step (step s c).1 r := rfl
/-! ### one call of the specification -/
theorem step_start {s : S} {n st : Int} {a b j d : List Int} {ms : List Made} (h : chipsOf a b = ms) : step s [[0, n, st], a, b, j, d] = if okStart ms ms.length (nat n) (nats j) (nats d) (nat st) = true then (some (Kh264.start ms (nat n) (nats j) (nats d) (nat st)), [0]) else (s, [-22]) := by
  subst h
  cases s <;> rfl
theorem step_clock {b : Board} {m x : Int} : step (some b) [[1, m, x]] = (some (doing b (.clock (nat m) (nat x))).1, [(doing b (.clock (nat m) (nat x))).2.value]) := rfl
theorem step_net {b : Board} {i : Int} : step (some b) [[2, i]] = (some (doing b (.net (nat i))).1, [(doing b (.net (nat i))).2.value]) := rfl
theorem step_state {b : Board} : step (some b) [[3]] = (some b, [(b.state : Int)]) := rfl
end Cc

end

section
set_option Elab.async false
set_option linter.all false
set_option maxRecDepth 100000
set_option maxHeartbeats 4000000
namespace Cc
open PySem PySem.Spec PyProof.Rows L2
/-! ### the text by places -/
def top (i : Nat) : Stmt := PySem.Challenge.pw_chipchain_s01_answers.main.body.getD i (.Pass ⟨0, 0, 0, 0⟩)
abbrev sC (j : Nat) : Stmt := inClass (top 28) j
abbrev sB (j : Nat) : Stmt := inClass (top 33) j
abbrev sR (j : Nat) : Stmt := inClass (top 34) j
/-! ### a def with its promise, a constant of the module -/
def Ok (P : Program) (w : World) (K : PySem.W.Frag) (mg : Str → Option Value) (base : Heap) (k : Nat) (f : Addr) (ps : List Str) (sp : Sp) : Prop :=
  ∃ fd, FnOk P w K mg base CX0 k f fd ps sp ∧ Binds K fd ps []
def Def (K : PySem.W.Frag) (x qual : Str) (st : Stmt) (f : Addr) (ps : List Str) : Prop := ∃ fd, Fun K x qual st f fd ∧ Binds K fd ps []
theorem Def.kp {K : PySem.W.Frag} {x qual : Str} {st : Stmt} {f : Addr} {ps : List Str} (D : Def K x qual st f ps) : PySem.W.keepIn K (.ref f) = true := by
  obtain ⟨fd, F, _⟩ := D
  exact F.kp
def GI (mg : Str → Option Value) (x : Str) (i : Int) : Prop := ∃ t, mg x = some (Value.int i t)
section
variable {X : Cx} {k : Nat} {f C : Addr} {ps : List Str} {sp : Sp} {x m : Str} {p pos apos : Pos} {e o : Expr} {es : List Expr} {ta : TE} {t : TA}
theorem pgi {i : Int} (h : GI X.mg x i) (hg : Gl X x := by rfl) (hd : (x == ("__debug__" : Str)) = false := by decide) : PE X (.Name x pos) (tC (.int i)) := by
  obtain ⟨tk, h⟩ := h
  exact pe_glob hg h ⟨tk, rfl⟩ hd
theorem pcall (O : Ok X.prog X.w X.K X.mg X.base k f ps sp) (hr : Room k X.A) (hm : X.mg x = some (.ref f)) (hk : PySem.W.keepIn X.K (.ref f) = true) (hx : Passes CX0 X E0)
    (ha : PA X (e :: es) t) (hg : Gl X x := by rfl) (hdb : (x == ("__debug__" : Str)) = false := by decide) (he : starEach (e :: es) X.env = (false, eval e X.env) :: starEach es X.env := by rfl) (hpl : (backTo pos (starEach es X.env)).any (·.1) = false := by rfl) :
    PE X (.Call (.Name x p) (e :: es) [] pos) (tCall sp [] E0 t) := by
  obtain ⟨fd, G, b⟩ := O
  exact pe_call G hr hg hm hk b .nil hx ha hdb he hpl
theorem pmeth {pl : Sem Bool} (he : PE X o ta) (c : Cls X.K C) (hm : Meth X.K C m f) (O : Ok X.prog X.w X.K X.mg X.base k f ps sp) (hr : Room k X.A) (hx : Passes CX0 X E0) (ha : PA X (e :: es) t)
    (hst : starEach (e :: es) X.env = (false, eval e X.env) :: starEach es X.env := by rfl) (hpl : (backTo pos (starEach es X.env)).any (·.1) = false := by rfl)
    (ht : eval (.Call (.Attribute o m apos) (e :: es) [] pos) X.env = (do
      let ov ← eval o X.env
      standAt apos.atName
      let (f, first) ← holding [ov] (getMethod ov m pl)
      callWith pos f first (backTo pos (starEach (e :: es) X.env)) (backToKw pos (keywordEach [] X.env))) := by rfl) :
    PE X (.Call (.Attribute o m apos) (e :: es) [] pos) (tMeth C m sp [] E0 ta t) := by
  obtain ⟨fd, G, b⟩ := O
  exact pe_meth he c hm G hr b .nil hx ha hst hpl ht
theorem pmeth0 {pl : Sem Bool} (he : PE X o ta) (c : Cls X.K C) (hm : Meth X.K C m f) (O : Ok X.prog X.w X.K X.mg X.base k f ps sp) (hr : Room k X.A) (hx : Passes CX0 X E0)
    (ht : eval (.Call (.Attribute o m apos) [] [] pos) X.env = (do
      let ov ← eval o X.env
      standAt apos.atName
      let (f, first) ← holding [ov] (getMethod ov m pl)
      callWith pos f first (backTo pos (starEach [] X.env)) (backToKw pos (keywordEach [] X.env))) := by rfl) :
    PE X (.Call (.Attribute o m apos) [] [] pos) (tMeth C m sp [] E0 ta tNil) := by
  obtain ⟨fd, G, b⟩ := O
  exact pe_meth0 he c hm G hr b .nil hx ht
theorem pmake (M : Mk X.K C f) (O : Ok X.prog X.w X.K X.mg X.base k f ps sp) (hr : Room (k + 1) X.A) (hm : X.mg x = some (.ref C)) (hx : Passes CX0 X E0)
    (ha : PA X (e :: es) t) (hg : Gl X x := by rfl) (hdb : (x == ("__debug__" : Str)) = false := by decide) (he : starEach (e :: es) X.env = (false, eval e X.env) :: starEach es X.env := by rfl) (hpl : (backTo pos (starEach es X.env)).any (·.1) = false := by rfl) :
    PE X (.Call (.Name x p) (e :: es) [] pos) (tMake C sp [] E0 t) := by
  obtain ⟨fd, G, b⟩ := O
  exact pe_make M G hr hg hm b .nil hx ha hdb he hpl
theorem pmake0 (M : Mk X.K C f) (O : Ok X.prog X.w X.K X.mg X.base k f ps sp) (hr : Room (k + 1) X.A) (hm : X.mg x = some (.ref C)) (hx : Passes CX0 X E0)
    (hg : Gl X x := by rfl) (hdb : (x == ("__debug__" : Str)) = false := by decide) : PE X (.Call (.Name x p) [] [] pos) (tMake C sp [] E0 tNil) := by
  obtain ⟨fd, G, b⟩ := O
  exact pe_make0 M G hr hg hm b .nil hx hdb
end
/-! ### a slice with a step -/
section
variable {X : Cx} {e k : Expr} {te : TE} {lo hi : Option Expr} {tl th tk : TO} {pos p2 : Pos}
def stepV (xs : List V) (lo hi st : Option Int) : List V := (sliceRange (sliceBounds lo hi st xs.length).1 (sliceBounds lo hi st xs.length).2.1 (sliceBounds lo hi st xs.length).2.2).filterMap (xs[·]?)
theorem Vals.places : ∀ {xs : List V} {us : List Value}, Vals xs us → ∀ js : List Nat, Vals (js.filterMap (xs[·]?)) (js.filterMap (us[·]?))
  | _, _, _, [] => .nil
  | xs, us, h, j :: js => by
    have ih := Vals.places h js
    cases hn : xs[j]? with
    | some n =>
      obtain ⟨u, hv, r⟩ := h.get hn
      simp only [List.filterMap_cons, hn, hv]
      exact .cons r ih
    | none =>
      have hv : us[j]? = none := h.none_of hn
      simp only [List.filterMap_cons, hn, hv]
      exact ih
def tSl3 (K : PySem.W.Frag) (te : TE) (tl th tk : TO) : TE := fun σ H Q => te σ H fun x H1 => tl σ H1 fun l H2 => th σ H2 fun u H3 => tk σ H3 fun st H4 =>
  ∃ a xs, x = .ref a ∧ SqL K H4 a xs ∧ st ≠ some 0 ∧ (stepV xs l u st).length ≤ sizeLine ∧ ∀ p, H4 p = none → Q (.ref p) (upd H4 p (.lst (stepV xs l u st)))
theorem pe_slice3 (he : PE X e te) (hl : PO X lo tl) (hu : PO X hi th) (hk : PO X (some k) tk) : PE X (.Subscript e (.Slice lo hi (some k) p2) pos) (tSl3 X.K te tl th tk) := by
  intro pins s σ H Q I h
  refine Subscript_ (thn (he pins s σ H _ I h) fun v s1 ⟨x, H1, I1, r1, q1⟩ => ?_)
  refine wpAny_Slice (thn (hl pins s1 σ H1 _ I1 q1) fun vl s2 ⟨l, H2, I2, pl, q2⟩ => thn (hu pins s2 σ H2 _ I2 q2) fun vu s3 ⟨u, H3, I3, pu, q3⟩ => thn (hk pins s3 σ H3 _ I3 q3) fun vk s4 ⟨st, H4, I4, pk, q4⟩ => ?_)
  obtain ⟨a, xs, e, hx, h0, hz, q⟩ := q4
  subst e
  cases r1
  have I5 : Inv X pins σ H4 { s4 with heap := s4.heap.push { cls := .type "slice", data := .fields #[vl, vu, vk] } } := I4.kept (t' := s4.toks) fun b ob q => Heap.get?_push_of_some _ q
  obtain ⟨its, r, ht, hz2⟩ := I5.list hx
  have hlen := r.length
  show wpAny (model X.prog X.w) X.A (subscriptTail _ (.Slice lo hi (some k) p2) (.ref a) (.ref s4.heap.objs.size)) (EP X pins σ Q) X.xe { s4 with heap := s4.heap.push { cls := .type "slice", data := .fields #[vl, vu, vk] } }
  refine tail_any (ops := [.ref a, .ref s4.heap.objs.size]) ht.isList.typeIs slot_list_getitem.lookup ?_ (by with_unfolding_all rfl)
  refine wpAny_getItem_list_slice ht.isList (Heap.IsSliceOf.new ..) pl pu pk h0 ?_ (by rw [List.size_toArray] <;> omega)
  have ep : slicePick its.toArray l u st = ((sliceRange (sliceBounds l u st xs.length).1 (sliceBounds l u st xs.length).2.1 (sliceBounds l u st xs.length).2.2).filterMap (its[·]?)).toArray := by
    unfold slicePick
    rw [List.size_toArray, ← hlen]
    simp
  rw [ep]
  refine ⟨.ref _, _, I5.laid (t' := s4.toks) (o := .lst (stepV xs l u st)) (fun b ob q => Heap.get?_push_of_some _ q) (Nat.le_refl _) ?_, rfl, q _ (I5.hok.fresh (Nat.le_refl _))⟩
  exact ⟨hz, _, 0, Vals.places r _, Heap.get?_push_size _ rfl⟩
end
/-- every second item -/
theorem bounds2 (r : Nat) (n : Nat) : sliceBounds (some (r : Int)) none (some 2) n = (((min r n : Nat) : Int), (n : Int), 2) := by
  simp only [sliceBounds, Option.getD_some, show (2 : Int) > 0 by decide, if_true]
  have h : ¬ (r : Int) < 0 := by omega
  simp only [h, if_false]
  congr 1
  omega
theorem stepV2 {xs : List V} {r : Nat} {ys : List V} (hl : xs.length = 2 * ys.length) (hr : r = 0 ∨ r = 1) (h : ∀ i : Nat, xs[2 * i + r]? = ys[i]?) : stepV xs (some (r : Int)) none (some 2) = ys := by
  unfold stepV
  rw [bounds2]
  unfold sliceRange
  simp only [show (2 : Int) > 0 by decide, if_true]
  have hc : (if ((min r xs.length : Nat) : Int) < (xs.length : Int) then ((xs.length : Int) - ((min r xs.length : Nat) : Int) + 2 - 1) / 2 else 0).toNat = ys.length := by
    split <;> omega
  rw [hc]
  have g : ∀ k, k ≤ ys.length → (List.map (fun (j : Nat) => (((min r xs.length : Nat) : Int) + 2 * (j : Int)).toNat) (List.range k)).filterMap (xs[·]?) = ys.take k := by
    intro k
    induction k with
    | zero => intro _; rfl
    | succ k ih =>
      intro hk
      rw [List.range_succ, List.map_append, List.filterMap_append, ih (by omega)]
      obtain ⟨y, hy⟩ : ∃ y, ys[k]? = some y := ⟨_, List.getElem?_eq_getElem (by omega)⟩
      rw [take_snoc hy]
      congr 1
      have e : (((min r xs.length : Nat) : Int) + 2 * (k : Int)).toNat = 2 * k + r := by omega
      simp only [List.map_cons, List.map_nil, List.filterMap_cons, List.filterMap_nil, e, h k, hy]
  rw [g _ (Nat.le_refl _), List.take_length]
/-! ### loops -/
theorem for_rev {K : PySem.W.Frag} {a : Addr} {xs : List V} {g : TG} {tb : TS} {D : Ends} {σ : L2.St} {H : Hp} (Pv : Nat → L2.St → Hp → Prop) (h0 : Pv 0 σ H) (hl : ∀ i σ H, i ≤ xs.length → Pv i σ H → SqL K H a xs)
    (hs : ∀ i x σ H, i < xs.length → xs[xs.length - 1 - i]? = some x → Pv i σ H → g x σ H fun σ2 H2 => tb { D with nx := Pv (i + 1), ct := Pv (i + 1), bk := D.nx } σ2 H2) (hd : ∀ σ H, Pv xs.length σ H → D.nx σ H) :
    ∃ W : Nat → Nat → L2.St → Hp → Prop, (∃ m, W 0 m σ H) ∧ ∀ i m σ H, W i m σ H →
      ((Itv K a xs.length).stop i H ∧ D.nx σ H) ∨ ((Itv K a xs.length).go i H ∧ ∃ N : L2.St → Hp → Prop, (∀ σ' H', N σ' H' → ∃ m', m' < m ∧ W (i + 1) m' σ' H') ∧ ∀ x H', (Itv K a xs.length).yld i H x H' → g x σ H' fun σ2 H2 => tb { D with nx := N, ct := N, bk := D.nx } σ2 H2) := by
  refine ⟨fun i m σ H => m = xs.length - i ∧ i ≤ xs.length ∧ Pv i σ H, ⟨xs.length, by simp, Nat.zero_le _, h0⟩, ?_⟩
  rintro i m σ H ⟨rfl, hi, p⟩
  have q := hl i σ H hi p
  by_cases hlt : i < xs.length
  · have hj : xs.length - 1 - i < xs.length := by omega
    refine .inr ⟨⟨hlt, xs, xs[xs.length - 1 - i], q, by simp [hj]⟩, Pv (i + 1), fun σ' H' p' => ⟨xs.length - (i + 1), by omega, rfl, hlt, p'⟩, fun x H' y => ?_⟩
    obtain ⟨e, y⟩ := y
    subst e
    exact hs i x σ _ hlt (y xs q) p
  · have e : i = xs.length := by omega
    subst e
    exact .inl ⟨Nat.le_refl _, hd σ H p⟩
theorem for_enum {K : PySem.W.Frag} {a : Addr} {xs : List V} {g : TG} {tb : TS} {D : Ends} {σ : L2.St} {H : Hp} (Pv : Nat → L2.St → Hp → Prop) (h0 : Pv 0 σ H) (hl : ∀ i σ H, i ≤ xs.length → Pv i σ H → SqL K H a xs)
    (hs : ∀ i x T σ H, xs[i]? = some x → Pv i σ H → H T = none → g (.ref T) σ (upd H T (.tup [.int (i : Nat), x])) fun σ2 H2 => tb { D with nx := Pv (i + 1), ct := Pv (i + 1), bk := D.nx } σ2 H2) (hd : ∀ σ H, Pv xs.length σ H → D.nx σ H) :
    ∃ W : Nat → Nat → L2.St → Hp → Prop, (∃ m, W 0 m σ H) ∧ ∀ i m σ H, W i m σ H →
      ((Ite K a).stop i H ∧ D.nx σ H) ∨ ((Ite K a).go i H ∧ ∃ N : L2.St → Hp → Prop, (∀ σ' H', N σ' H' → ∃ m', m' < m ∧ W (i + 1) m' σ' H') ∧ ∀ x H', (Ite K a).yld i H x H' → g x σ H' fun σ2 H2 => tb { D with nx := N, ct := N, bk := D.nx } σ2 H2) := by
  refine ⟨fun i m σ H => m = xs.length - i ∧ i ≤ xs.length ∧ Pv i σ H, ⟨xs.length, by simp, Nat.zero_le _, h0⟩, ?_⟩
  rintro i m σ H ⟨rfl, hi, p⟩
  have q := hl i σ H hi p
  by_cases hlt : i < xs.length
  · refine .inr ⟨⟨xs, xs[i], q, by simp [hlt]⟩, Pv (i + 1), fun σ' H' p' => ⟨xs.length - (i + 1), by omega, rfl, hlt, p'⟩, fun v H' y => ?_⟩
    obtain ⟨T, x, ev, hT, eH, hx⟩ := y
    subst ev eH
    exact hs i x T σ H (hx xs q) p hT
  · have e : i = xs.length := by omega
    subst e
    exact .inl ⟨⟨xs, q, Nat.le_refl _⟩, hd σ H p⟩
/-! ### tests -/
theorem iteI {i j : Int} {A B : Prop} (h1 : i = j → A) (h2 : i ≠ j → B) : if decide (V.int i = V.int j) = true then A else B := by
  by_cases h : i = j
  · subst h; rw [decide_eq_true rfl, if_pos rfl]; exact h1 rfl
  · have h' : ¬ V.int i = V.int j := fun e => h (V.int.inj e)
    rw [decide_eq_false h', if_neg Bool.false_ne_true]; exact h2 h
theorem iteNI {i j : Int} {A B : Prop} (h1 : i ≠ j → A) (h2 : i = j → B) : if (!decide (V.int i = V.int j)) = true then A else B := by
  by_cases h : i = j
  · subst h; rw [decide_eq_true rfl, if_neg (by decide)]; exact h2 rfl
  · have h' : ¬ V.int i = V.int j := fun e => h (V.int.inj e)
    rw [decide_eq_false h', if_pos (by rfl)]; exact h1 h
theorem iteD {c A B : Prop} [Decidable c] (h1 : c → A) (h2 : ¬ c → B) : if decide c = true then A else B := by
  by_cases h : c
  · rw [decide_eq_true h, if_pos rfl]; exact h1 h
  · rw [decide_eq_false h, if_neg Bool.false_ne_true]; exact h2 h
/-! ### heaps -/
def Keep (M : List Addr) (H H' : Hp) : Prop := ∀ b o, H b = some o → b ∉ M → H' b = some o
section
variable {H H' H1 H2 : Hp} {M M' : List Addr} {a D : Addr} {o : HO}
theorem Keep.refl (M : List Addr) (H : Hp) : Keep M H H := fun _ _ h _ => h
theorem Keep.trans (k : Keep M H H1) (k' : Keep M H1 H2) : Keep M H H2 := fun b o h n => k' b o (k b o h n) n
theorem Keep.mono (k : Keep M H H') (h : ∀ b ∈ M, b ∈ M') : Keep M' H H' := fun b o e n => k b o e fun z => n (h b z)
theorem Keep.of_same (s : Same H H') : Keep M H H' := fun b o e _ => s b o e
theorem Keep.upd (k : Keep M H H') (h : D ∈ M) : Keep M H (L2.upd H' D o) := fun b u e n => by
  have hne : b ≠ D := fun z => n (by rw [z]; exact h)
  rw [upd_ne hne]; exact k b u e n
theorem Keep.new (k : Keep M H H') (h : H D = none) : Keep M H (L2.upd H' D o) := fun b u e n => by
  rw [upd_ne (ne_of_none e h)]; exact k b u e n
theorem Keep.same (k : Keep M H H') (h : ∀ m ∈ M, H m = none) : Same H H' := fun b o e => k b o e fun z => by rw [h b z] at e; cases e
theorem same_new (s : Same H H') (h : H D = none) : Same H (L2.upd H' D o) := fun b u e => by
  rw [upd_ne (ne_of_none e h)]; exact s b u e
theorem same_refl (H : Hp) : Same H H := fun _ _ h => h
theorem some_ne (h : H a = some o) : H a ≠ none := by rw [h]; intro z; cases z
/-- the heap behind a store by what is known of it -/
theorem abs_upd {P : Hp → Prop} (h : ∀ H1, H1 a = some o → (∀ b, b ≠ a → H1 b = H b) → P H1) : P (L2.upd H a o) := h _ upd_same fun _ hb => upd_ne hb
end
/-! ### data -/
def vb (l : List Bool) : List V := l.map fun b => V.int (bi b)
def vn (l : List Nat) : List V := l.map fun (n : Nat) => V.int (n : Int)
def vi (l : List Int) : List V := l.map V.int
theorem vb_len (l : List Bool) : (vb l).length = l.length := List.length_map _
theorem vn_len (l : List Nat) : (vn l).length = l.length := List.length_map _
theorem vi_len (l : List Int) : (vi l).length = l.length := List.length_map _
theorem vb_get {l : List Bool} {i : Nat} {b : Bool} (h : l[i]? = some b) : (vb l)[i]? = some (V.int (bi b)) := by unfold vb; rw [List.getElem?_map, h]; rfl
theorem vn_get {l : List Nat} {i b : Nat} (h : l[i]? = some b) : (vn l)[i]? = some (V.int b) := by unfold vn; rw [List.getElem?_map, h]; rfl
theorem vi_get {l : List Int} {i : Nat} {b : Int} (h : l[i]? = some b) : (vi l)[i]? = some (V.int b) := by unfold vi; rw [List.getElem?_map, h]; rfl
theorem vb_snoc (l : List Bool) (b : Bool) : vb (l ++ [b]) = vb l ++ [V.int (bi b)] := by unfold vb; rw [List.map_append]; rfl
theorem vn_snoc (l : List Nat) (b : Nat) : vn (l ++ [b]) = vn l ++ [V.int b] := by unfold vn; rw [List.map_append]; rfl
theorem vi_snoc (l : List Int) (b : Int) : vi (l ++ [b]) = vi l ++ [V.int b] := by unfold vi; rw [List.map_append]; rfl
theorem of_vn {l : List Nat} {i : Nat} {x : V} (h : (vn l)[i]? = some x) : ∃ n, l[i]? = some n ∧ x = V.int n := by
  unfold vn at h
  rw [List.getElem?_map] at h
  cases e : l[i]? with
  | none => rw [e] at h; cases h
  | some n => rw [e] at h; exact ⟨n, rfl, (Option.some.inj h).symm⟩
theorem of_vb {l : List Bool} {i : Nat} {x : V} (h : (vb l)[i]? = some x) : ∃ n, l[i]? = some n ∧ x = V.int (bi n) := by
  unfold vb at h
  rw [List.getElem?_map] at h
  cases e : l[i]? with
  | none => rw [e] at h; cases h
  | some n => rw [e] at h; exact ⟨n, rfl, (Option.some.inj h).symm⟩
theorem lt_line {n : Nat} (h : n ≤ 100000) : n < sizeLine := Nat.lt_of_le_of_lt h (by decide)
theorem le_line {n : Nat} (h : n ≤ 100000) : n ≤ sizeLine := Nat.le_of_lt (lt_line h)
def vnets (c : Kh264.Chip) : List V := c.made.cells.map fun x => V.int x.net
def vdrives (c : Kh264.Chip) : List V := c.made.cells.map fun x => V.int (bi x.drives)
def cf (c : Kh264.Chip) (an ad ab adt ai : Addr) : List (Str × V) := [("ident", .int c.made.id), ("width", .int c.made.ir), ("has_id", .int (bi c.made.hasId)), ("cell_nets", .ref an), ("cell_drives", .ref ad), ("cell_bits", .ref ab), ("data", .ref adt), ("new_instruction", .ref ai), ("instruction", .int c.instruction)]
def bfl (st : Nat) (ac aj ah : Addr) : List (Str × V) := [("state", .int st), ("chips", .ref ac), ("joined", .ref aj), ("held", .ref ah)]
def rfl' (a : Addr) (place : Nat) : List (Str × V) := [("calls", .ref a), ("place", .int place)]
/-- a chip stands at p, its cells' bits at ab; its other lists are none of Z -/
structure ChipAt (C : Addr) (Z : List Addr) (H : Hp) (p ab : Addr) (c : Kh264.Chip) : Prop where
  ex : ∃ dx an ad adt ai, H p = some (.ins C dx (cf c an ad ab adt ai)) ∧ H an = some (.lst (vnets c)) ∧ H ad = some (.lst (vdrives c)) ∧ H adt = some (.lst (vb c.dr)) ∧ H ai = some (.lst (vb c.ir)) ∧
    an ∉ Z ∧ ad ∉ Z ∧ adt ∉ Z ∧ ai ∉ Z
  bits : H ab = some (.lst (vb c.bits))
structure ChipsAt (C : Addr) (H : Hp) (cs abs : List Addr) (l : List Kh264.Chip) : Prop where
  nd : cs.Nodup
  ndb : abs.Nodup
  len : cs.length = l.length
  lenb : abs.length = l.length
  at_ : ∀ (j : Nat) (p ab : Addr) (c : Kh264.Chip), cs[j]? = some p → abs[j]? = some ab → l[j]? = some c → ChipAt C abs H p ab c
/-- the board at bp, its chips at cs, their cells' bits at abs -/
structure BrdAt (B C : Addr) (H : Hp) (bp : Addr) (cs abs : List Addr) (b : Kh264.Board) : Prop where
  ex : ∃ d ac aj ah, H bp = some (.ins B d (bfl b.state ac aj ah)) ∧ H ac = some (.lst (cs.map V.ref)) ∧ H aj = some (.lst (vn b.joined)) ∧ H ah = some (.lst (vn b.held)) ∧ ac ∉ abs ∧ aj ∉ abs ∧ ah ∉ abs
  chips : ChipsAt C H cs abs b.chips
theorem cf_ne_bfl (c : Kh264.Chip) (an ad ab adt ai : Addr) (st : Nat) (ac aj ah : Addr) : cf c an ad ab adt ai ≠ bfl st ac aj ah := fun e => by
  have := congrArg List.length e
  exact absurd this (by show ¬ 9 = 4; decide)
theorem cf_ne_rfl (c : Kh264.Chip) (an ad ab adt ai : Addr) (a : Addr) (n : Nat) : cf c an ad ab adt ai ≠ rfl' a n := fun e => by
  have := congrArg List.length e
  exact absurd this (by show ¬ 9 = 2; decide)
theorem bfl_ne_rfl (st : Nat) (ac aj ah : Addr) (a : Addr) (n : Nat) : bfl st ac aj ah ≠ rfl' a n := fun e => by
  have := congrArg List.length e
  exact absurd this (by show ¬ 4 = 2; decide)
section
variable {C B : Addr} {H H' : Hp} {p ab bp : Addr} {cs abs Z : List Addr} {c c' : Kh264.Chip} {l : List Kh264.Chip}
theorem ne_lst_ins {a b : Addr} {xs : List V} {C dx : Addr} {fs : List (Str × V)} (h : H a = some (.lst xs)) (h' : H b = some (.ins C dx fs)) : a ≠ b := ne_of h h' (by intro z; cases z)
theorem ChipAt.same (k : ChipAt C Z H p ab c) (s : Same H H') : ChipAt C Z H' p ab c := by
  obtain ⟨⟨dx, an, ad, adt, ai, h1, h2, h3, h4, h5, z⟩, h6⟩ := k
  exact ⟨⟨dx, an, ad, adt, ai, s _ _ h1, s _ _ h2, s _ _ h3, s _ _ h4, s _ _ h5, z⟩, s _ _ h6⟩
/-- M: instances other than p, and bits of Z other than ab -/
theorem ChipAt.keep {M : List Addr} (k : ChipAt C Z H p ab c) (kp : Keep M H H') (hp : p ∉ M) (hb : ab ∉ M) (hM : ∀ m ∈ M, m ∈ Z ∨ ∃ C' dx fs, H m = some (.ins C' dx fs)) : ChipAt C Z H' p ab c := by
  obtain ⟨⟨dx, an, ad, adt, ai, h1, h2, h3, h4, h5, z1, z2, z3, z4⟩, h6⟩ := k
  have key : ∀ {x : Addr} {xs : List V}, H x = some (.lst xs) → x ∉ Z → x ∉ M := fun {x xs} hx hz hm => by
    rcases hM x hm with q | ⟨C', dx', fs, q⟩
    · exact hz q
    · rw [hx] at q; cases q
  exact ⟨⟨dx, an, ad, adt, ai, kp _ _ h1 hp, kp _ _ h2 (key h2 z1), kp _ _ h3 (key h3 z2), kp _ _ h4 (key h4 z3), kp _ _ h5 (key h5 z4), z1, z2, z3, z4⟩, kp _ _ h6 hb⟩
theorem ChipsAt.same (k : ChipsAt C H cs abs l) (s : Same H H') : ChipsAt C H' cs abs l := ⟨k.nd, k.ndb, k.len, k.lenb, fun j p ab c h1 h2 h3 => (k.at_ j p ab c h1 h2 h3).same s⟩
theorem ChipsAt.get (k : ChipsAt C H cs abs l) {j : Nat} {c : Kh264.Chip} (h : l[j]? = some c) : ∃ p ab, cs[j]? = some p ∧ abs[j]? = some ab ∧ ChipAt C abs H p ab c := by
  have hj : j < l.length := (List.getElem?_eq_some_iff.mp h).1
  have hj1 : j < cs.length := by rw [k.len]; exact hj
  have hj2 : j < abs.length := by rw [k.lenb]; exact hj
  have h1 : cs[j]? = some cs[j] := List.getElem?_eq_getElem hj1
  have h2 : abs[j]? = some abs[j] := List.getElem?_eq_getElem hj2
  exact ⟨_, _, h1, h2, k.at_ j _ _ c h1 h2 h⟩
theorem ChipsAt.ref (k : ChipsAt C H cs abs l) {j : Nat} (h : j < cs.length) : ∃ p ab c, cs[j]? = some p ∧ abs[j]? = some ab ∧ l[j]? = some c ∧ ChipAt C abs H p ab c := by
  have hj : j < l.length := by rw [← k.len]; exact h
  have h3 : l[j]? = some l[j] := List.getElem?_eq_getElem hj
  obtain ⟨p, ab, h1, h2, h4⟩ := k.get h3
  exact ⟨p, ab, _, h1, h2, h3, h4⟩
/-- what stands at the bits, at the chips -/
theorem ChipsAt.isB (k : ChipsAt C H cs abs l) {z : Addr} (h : z ∈ abs) : ∃ xs, H z = some (.lst xs) := by
  obtain ⟨j, hj⟩ := List.getElem?_of_mem h
  have hl : j < cs.length := by rw [k.len, ← k.lenb]; exact (List.getElem?_eq_some_iff.mp hj).1
  obtain ⟨p, ab, c, _, h2, _, h4⟩ := k.ref hl
  rw [hj] at h2
  cases h2
  exact ⟨_, h4.bits⟩
theorem ChipsAt.isC (k : ChipsAt C H cs abs l) {z : Addr} (h : z ∈ cs) : ∃ dx c an ad ab adt ai, H z = some (.ins C dx (cf c an ad ab adt ai)) := by
  obtain ⟨j, hj⟩ := List.getElem?_of_mem h
  obtain ⟨p, ab, c, h1, _, _, h4⟩ := k.ref (List.getElem?_eq_some_iff.mp hj).1
  rw [hj] at h1
  cases h1
  obtain ⟨dx, an, ad, adt, ai, h, _⟩ := h4.ex
  exact ⟨dx, c, an, ad, ab, adt, ai, h⟩
theorem ChipsAt.step {j : Nat} (k : ChipsAt C H cs abs l) (hp : cs[j]? = some p) (hb : abs[j]? = some ab) (hA : ChipAt C abs H' p ab c') (kp : Keep [p, ab] H H') : ChipsAt C H' cs abs (l.set j c') := by
  have hj : j < l.length := by rw [← k.len]; exact (List.getElem?_eq_some_iff.mp hp).1
  have pC := k.isC (List.mem_of_getElem? hp)
  obtain ⟨dx0, c0, _, _, _, _, _, pC⟩ := pC
  obtain ⟨xb, bB⟩ := k.isB (List.mem_of_getElem? hb)
  refine ⟨k.nd, k.ndb, by rw [List.length_set]; exact k.len, by rw [List.length_set]; exact k.lenb, fun j' p' ab' c1 h1 h2 h3 => ?_⟩
  by_cases e : j = j'
  · subst e
    rw [hp] at h1
    rw [hb] at h2
    cases h1
    cases h2
    rw [List.getElem?_set_self hj] at h3
    cases h3
    exact hA
  · rw [List.getElem?_set_ne e] at h3
    have q := k.at_ j' p' ab' c1 h1 h2 h3
    obtain ⟨dx', _, _, _, _, q1, _⟩ := q.ex
    refine q.keep kp (fun m => ?_) (fun m => ?_) fun m hm => ?_
    · rcases List.mem_cons.mp m with z | z
      · exact e (nd_ix k.nd hp (by rw [← z]; exact h1))
      · have z := List.mem_singleton.mp z
        exact ne_lst_ins bB q1 z.symm
    · rcases List.mem_cons.mp m with z | z
      · exact ne_lst_ins q.bits pC z
      · have z := List.mem_singleton.mp z
        exact e (nd_ix k.ndb hb (by rw [← z]; exact h2))
    · rcases List.mem_cons.mp hm with z | z
      · rw [z]; exact .inr ⟨_, _, _, pC⟩
      · have z := List.mem_singleton.mp z
        rw [z]; exact .inl (List.mem_of_getElem? hb)
end
end Cc

end

section
set_option Elab.async false
set_option linter.all false
set_option maxRecDepth 100000
set_option maxHeartbeats 4000000
namespace Cc
open PySem PySem.Spec PyProof.Rows L2
/-! ### what stands in the module -/
structure Glb (mg : Str → Option Value) : Prop where
  range : mg "range" = none
  len : mg "len" = none
  rev : mg "reversed" = none
  enum : mg "enumerate" = none
  refused : GI mg "REFUSED" (-22)
  gstart : GI mg "START" 0
  gclock : GI mg "CLOCK" 1
  gnet : GI mg "NET" 2
  reset : GI mg "RESET" 0
  takeD : GI mg "TAKE_DATA" 3
  shiftD : GI mg "SHIFT_DATA" 4
  setD : GI mg "SET_DATA" 8
  takeI : GI mg "TAKE_INSTRUCTIONS" 10
  shiftI : GI mg "SHIFT_INSTRUCTIONS" 11
  setI : GI mg "SET_INSTRUCTIONS" 15
  drive : GI mg "DRIVE" 0
  look : GI mg "LOOK" 1
  ident : GI mg "IDENTIFY" 2
  held0 : GI mg "HELD_AT_0" 1
  held1 : GI mg "HELD_AT_1" 2
  nChip : GI mg "NUMBERS_OF_A_CHIP" 4
  nCell : GI mg "NUMBERS_OF_A_CELL" 2
  idw : GI mg "ID_WIDTH" 32
  mChips : GI mg "MOST_CHIPS" 8
  mCells : GI mg "MOST_CELLS" 64
  mNets : GI mg "MOST_NETS" 64
  lW : GI mg "LEAST_INSTRUCTION_WIDTH" 2
  mW : GI mg "MOST_INSTRUCTION_WIDTH" 32
structure ChipC (K : PySem.W.Frag) (C : Addr) : Prop where
  cl : Cls K C
  nId : NoAttr K C "ident"
  nW : NoAttr K C "width"
  nH : NoAttr K C "has_id"
  nN : NoAttr K C "cell_nets"
  nD : NoAttr K C "cell_drives"
  nB : NoAttr K C "cell_bits"
  nDt : NoAttr K C "data"
  nNi : NoAttr K C "new_instruction"
  nI : NoAttr K C "instruction"
section
variable (c : Kh264.Chip) (an ad ab adt ai : Addr)
theorem lk_ident : (cf c an ad ab adt ai).lookup ("ident" : Str) = some (.int c.made.id) := by kernel_rfl
theorem lk_width : (cf c an ad ab adt ai).lookup ("width" : Str) = some (.int c.made.ir) := by kernel_rfl
theorem lk_has : (cf c an ad ab adt ai).lookup ("has_id" : Str) = some (.int (bi c.made.hasId)) := by kernel_rfl
theorem lk_nets : (cf c an ad ab adt ai).lookup ("cell_nets" : Str) = some (.ref an) := by kernel_rfl
theorem lk_drives : (cf c an ad ab adt ai).lookup ("cell_drives" : Str) = some (.ref ad) := by kernel_rfl
theorem lk_bits : (cf c an ad ab adt ai).lookup ("cell_bits" : Str) = some (.ref ab) := by kernel_rfl
theorem lk_data : (cf c an ad ab adt ai).lookup ("data" : Str) = some (.ref adt) := by kernel_rfl
theorem lk_ni : (cf c an ad ab adt ai).lookup ("new_instruction" : Str) = some (.ref ai) := by kernel_rfl
theorem lk_ins : (cf c an ad ab adt ai).lookup ("instruction" : Str) = some (.int c.instruction) := by kernel_rfl
theorem lk_m1 : (cf c an ad ab adt ai).lookup ("reset_instruction" : Str) = none := by kernel_rfl
theorem lk_m2 : (cf c an ad ab adt ai).lookup ("reset" : Str) = none := by kernel_rfl
theorem lk_m3 : (cf c an ad ab adt ai).lookup ("take_data" : Str) = none := by kernel_rfl
theorem lk_m4 : (cf c an ad ab adt ai).lookup ("seen_by_cells" : Str) = none := by kernel_rfl
theorem lk_m5 : (cf c an ad ab adt ai).lookup ("shift_data" : Str) = none := by kernel_rfl
theorem lk_m6 : (cf c an ad ab adt ai).lookup ("set_data" : Str) = none := by kernel_rfl
theorem lk_m7 : (cf c an ad ab adt ai).lookup ("take_instruction" : Str) = none := by kernel_rfl
theorem lk_m8 : (cf c an ad ab adt ai).lookup ("shift_instruction" : Str) = none := by kernel_rfl
theorem lk_m9 : (cf c an ad ab adt ai).lookup ("set_instruction" : Str) = none := by kernel_rfl
theorem lk_m10 : (cf c an ad ab adt ai).lookup ("nets_driven_to_0" : Str) = none := by kernel_rfl
theorem put_data (l : List Bool) (x : Addr) : putF "data" (.ref x) (cf c an ad ab adt ai) = cf { c with dr := l } an ad ab x ai := by kernel_rfl
theorem put_ni (l : List Bool) (x : Addr) : putF "new_instruction" (.ref x) (cf c an ad ab adt ai) = cf { c with ir := l } an ad ab adt x := by kernel_rfl
theorem put_ins (n : Nat) : putF "instruction" (.int n) (cf c an ad ab adt ai) = cf { c with instruction := n } an ad ab adt ai := by kernel_rfl
end
section
variable {P : Program} {w : World} {K : PySem.W.Frag} {mg : Str → Option Value} {base : Heap}
/-! ### bits_of, number_of -/
def spBits : Sp := fun vs H Q _ => ∃ n u : Nat, vs = [.int n, .int u] ∧ u ≤ 64 ∧ ∀ (H' : Hp) (q : Addr), H q = none → Same H H' → H' q = some (.lst (vb (Kh264.bitsOf n u))) → Q (.ref q) H'
theorem sc_bits : FnScope ["number", "width", "k"] ["number", "width"] (defScope (top 26)) := ⟨rfl, rfl, rfl, by decide +kernel, rfl, by decide +kernel, by decide +kernel⟩
theorem ok_bits {f : Addr} (D : Def K "bits_of" "bits_of" (top 26) f ["number", "width"]) (T : Glb mg) : Ok P w K mg base 1 f ["number", "width"] spBits := by
  obtain ⟨fd, F, b⟩ := D
  refine ⟨fd, F.ok sc_bits (fun vs H Q E h => ?_) (fun cdv A outer s H vs Q E hr h => ?_), b⟩
  · obtain ⟨n, u, rfl, _⟩ := h
    rfl
  · obtain ⟨n, u, rfl, hu, k⟩ := h
    refine ⟨_, pss_one (ps_ret (pe_lc (own := [("k", 2)]) rfl sc_bits.nd (pi_range1 rfl T.range (pa_cons (pv 1) pa_nil)) (blkOk_by (by show blkC ["number", "width", "k"] (defScope (top 26)) _ [("k", 2)] = true; decide +kernel))
      (fun _ _ _ _ _ => pg_name (i := 2) sc_bits.nd rfl (Or.inl rfl)) (fun _ _ _ _ _ => pts_nil) (fun _ _ _ _ _ => pe_op op_and (pe_op op_shr (pv 0) (pv 2)) pe_int))), ?_⟩
    refine ⟨_, rfl, (u : Int), rfl, by omega, by omega, fun D hD => ?_⟩
    refine lc_range (lo := 0) (n := u) (fun i H' => Same H H' ∧ H' D = some (.lst (vb ((List.range i).map n.testBit)))) ⟨same_new (same_refl H) hD, upd_same⟩ ?_ ?_
    · rintro i H' hi ⟨sm, hl⟩
      refine ⟨rfl, ?_⟩
      refine ⟨_, rfl, _, rfl, _, _, rfl, rfl, (by show (0 : Int) ≤ 0 + (i : Int); omega), _, _, rfl, rfl, _, hl, ?_, same_new sm hD, ?_⟩
      · rw [vb_len, List.length_map, List.length_range]; exact lt_line (by omega)
      · rw [upd_same, List.range_succ, List.map_append]
        have e : (0 + (i : Int)).toNat = i := by omega
        have e2 : Builtin.bitAnd ((n : Int) / 2 ^ (0 + (i : Int)).toNat) 1 = bi (n.testBit i) := by
          rw [PyProof.Rows.bitAnd_m1, e]; exact bit_div n i
        show some (HO.lst (vb (List.map n.testBit (List.range i)) ++ [V.int (Builtin.bitAnd ((n : Int) / 2 ^ (0 + (i : Int)).toNat) 1)])) = _
        rw [e2]
        exact congrArg (fun z => some (HO.lst z)) (vb_snoc _ _).symm
    · rintro H' ⟨sm, hl⟩
      exact k H' D hD sm hl
def spNum : Sp := fun vs H Q _ => ∃ (a : Addr) (bs : List Bool), vs = [.ref a] ∧ H a = some (.lst (vb bs)) ∧ Q (.int (Kh264.numberOf bs)) H
theorem sc_num : FnScope ["bits", "number", "bit"] ["bits"] (defScope (top 27)) := ⟨rfl, rfl, rfl, by decide +kernel, rfl, by decide +kernel, by decide +kernel⟩
theorem ok_num {f : Addr} (D : Def K "number_of" "number_of" (top 27) f ["bits"]) (T : Glb mg) : Ok P w K mg base 1 f ["bits"] spNum := by
  obtain ⟨fd, F, b⟩ := D
  refine ⟨fd, F.ok sc_num (fun vs H Q E h => ?_) (fun cdv A outer s H vs Q E hr h => ?_), b⟩
  · obtain ⟨a, bs, rfl, _⟩ := h
    rfl
  · obtain ⟨a, bs, rfl, ha, k⟩ := h
    refine ⟨_, pss_cons (ps_set (i := 1) sc_num.nd rfl (Or.inl rfl) pe_int) (pss_cons (ps_for PassesOwn.never rfl (pi_reversed rfl T.rev (pa_cons (pv 0) pa_nil)) (pg_name (i := 2) sc_num.nd rfl (Or.inl rfl))
      (pss_one (ps_set (i := 1) sc_num.nd rfl (Or.inl rfl) (pe_op op_add (pe_op op_mul pe_int (pv 1)) (pv 2))))) (pss_one (ps_ret (pv 1)))), ?_⟩
    refine ⟨_, rfl, a, vb bs, rfl, SqL.of ha, for_rev (K := K) (a := a) (xs := vb bs) (fun i σ H' => ∃ v : Option V, σ = [some (.ref a), some (.int (Kh264.numberOf (bs.drop (bs.length - i)))), v] ∧ H' = H) ⟨none, ?_, rfl⟩ ?_ ?_ ?_⟩
    · rw [Nat.sub_zero, List.drop_length]; rfl
    · rintro i σ H' _ ⟨v, _, rfl⟩
      exact SqL.of ha
    · rintro i x σ H' hi hx ⟨v, rfl, rfl⟩
      rw [vb_len] at hi hx
      obtain ⟨y, hy, rfl⟩ := of_vb hx
      refine ⟨_, rfl, _, _, rfl, rfl, .inl ⟨by decide, by decide⟩, _, rfl, _, _, rfl, rfl, some (.int (bi y)), ?_, rfl⟩
      have e1 : bs.length - (i + 1) = bs.length - 1 - i := by omega
      have e2 : bs.length - i = bs.length - 1 - i + 1 := by omega
      rw [e1, drop_cons' hy, e2]
      have e3 : (2 : Int) * (Kh264.numberOf (bs.drop (bs.length - 1 - i + 1)) : Int) + bi y = ((Kh264.numberOf (y :: bs.drop (bs.length - 1 - i + 1)) : Nat) : Int) := by
        show _ = (((if y = true then 1 else 0) + 2 * Kh264.numberOf (bs.drop (bs.length - 1 - i + 1)) : Nat) : Int)
        cases y <;> simp [bi] <;> omega
      rw [← e3]
      rfl
    · rintro σ H' ⟨v, rfl, rfl⟩
      refine ⟨_, rfl, ?_⟩
      rw [vb_len, Nat.sub_self, List.drop_zero]
      exact k
end
end Cc

end

section
set_option Elab.async false
set_option linter.all false
set_option maxRecDepth 100000
set_option maxHeartbeats 4000000
namespace Cc
open PySem PySem.Spec PyProof.Rows L2
section
variable {P : Program} {w : World} {K : PySem.W.Frag} {mg : Str → Option Value} {base : Heap}
/-! ### a chip whose fields change -/
theorem ChipAt.put {C : Addr} {Z : List Addr} {H H' : Hp} {p ab dx an ad adt ai adt' ai' : Addr} {c c' : Kh264.Chip} (h0 : H p = some (.ins C dx (cf c an ad ab adt ai))) (h1 : H an = some (.lst (vnets c))) (h2 : H ad = some (.lst (vdrives c)))
    (h3 : H ab = some (.lst (vb c.bits))) (z1 : an ∉ Z) (z2 : ad ∉ Z) (kp : Keep [p] H H') (hm : c'.made = c.made) (hb : c'.bits = c.bits) (h4 : H' p = some (.ins C dx (cf c' an ad ab adt' ai'))) (h5 : H' adt' = some (.lst (vb c'.dr)))
    (h6 : H' ai' = some (.lst (vb c'.ir))) (z3 : adt' ∉ Z) (z4 : ai' ∉ Z) : ChipAt C Z H' p ab c' := by
  have ne : ∀ {x : Addr} {xs : List V}, H x = some (.lst xs) → x ∉ [p] := fun {x xs} hx m => ne_lst_ins hx h0 (List.mem_singleton.mp m)
  refine ⟨⟨dx, an, ad, adt', ai', h4, ?_, ?_, h5, h6, z1, z2, z3, z4⟩, ?_⟩
  · unfold vnets; rw [hm]; exact kp _ _ h1 (ne h1)
  · unfold vdrives; rw [hm]; exact kp _ _ h2 (ne h2)
  · rw [hb]; exact kp _ _ h3 (ne h3)
theorem Keep.one {H H' : Hp} {p q : Addr} (k : Keep [p] H H') : Keep [p, q] H H' := k.mono fun b hb => by simp at hb; simp [hb]
/-! ### reset_instruction, reset -/
def insR (h : Bool) (u : Nat) : Nat := if h = true then 2 else 2 ^ u - 1
def spRI (C : Addr) : Sp := fun vs H Q _ => ∃ (p dx : Addr) (fs : List (Str × V)) (h : Bool) (u : Nat), vs = [.ref p] ∧ H p = some (.ins C dx fs) ∧ fs.lookup ("has_id" : Str) = some (.int (bi h)) ∧ fs.lookup ("width" : Str) = some (.int u) ∧ u ≤ 64 ∧ Q (.int (insR h u : Nat)) H
theorem sc_ri : FnScope ["self"] ["self"] (defScope (sC 1)) := ⟨rfl, rfl, rfl, by decide +kernel, rfl, by decide +kernel, by decide +kernel⟩
theorem ok_ri {f C : Addr} (D : Def K "reset_instruction" "Chip.reset_instruction" (sC 1) f ["self"]) (T : Glb mg) (Y : ChipC K C) : Ok P w K mg base 1 f ["self"] (spRI C) := by
  obtain ⟨fd, F, b⟩ := D
  refine ⟨fd, F.ok sc_ri (fun vs H Q E h => ?_) (fun cdv A outer s H vs Q E hr h => ?_), b⟩
  · obtain ⟨p, dx, fs, h, u, rfl, _⟩ := h
    rfl
  · obtain ⟨p, dx, fs, h, u, rfl, hp, h1, h2, hu, k⟩ := h
    refine ⟨_, pss_cons (ps_if (pt_cmpR op_eq (pe_fld (pv 0) rfl) pe_int (nomark _)) (pss_one (ps_ret (pgi T.ident))) pss_nil) (pss_one (ps_ret (pe_op op_sub (pe_op op_shl pe_int (pe_fld (pv 0) rfl)) pe_int))), ?_⟩
    refine ⟨_, rfl, p, C, dx, fs, _, rfl, hp, Y.cl, Y.nH, h1, rfl, _, rfl, ?_⟩
    cases h with
    | true => exact iteI (fun _ => k) (fun n => absurd rfl n)
    | false =>
      refine iteI (fun e => absurd e (by decide)) (fun _ => ?_)
      refine ⟨_, rfl, p, C, dx, fs, _, rfl, hp, Y.cl, Y.nW, h2, _, _, rfl, rfl, ⟨by omega, by omega, by decide⟩, _, _, rfl, rfl, ?_⟩
      have e : (1 : Int) * 2 ^ ((u : Int).toNat) - 1 = ((2 ^ u - 1 : Nat) : Int) := by
        have q : 1 ≤ 2 ^ u := Nat.one_le_two_pow
        rw [Int.toNat_natCast, Int.one_mul, Int.natCast_sub q, Int.natCast_pow]; rfl
      show Q (V.int ((1 : Int) * 2 ^ ((u : Int).toNat) - 1)) H
      rw [e]
      exact k
def spReset (C : Addr) : Sp := fun vs H Q _ => ∃ (p ab : Addr) (c : Kh264.Chip) (Z : List Addr), vs = [.ref p] ∧ ChipAt C Z H p ab c ∧ c.made.ir ≤ 64 ∧ ∀ H' : Hp, ChipAt C Z H' p ab (Kh264.reset c) → Keep [p, ab] H H' → Q .non H'
theorem sc_reset : FnScope ["self"] ["self"] (defScope (sC 2)) := ⟨rfl, rfl, rfl, by decide +kernel, rfl, by decide +kernel, by decide +kernel⟩
theorem ok_reset {f C g : Addr} (D : Def K "reset" "Chip.reset" (sC 2) f ["self"]) (Y : ChipC K C) (m : Meth K C "reset_instruction" g) (O : Ok P w K mg base 1 g ["self"] (spRI C)) : Ok P w K mg base 2 f ["self"] (spReset C) := by
  obtain ⟨fd, F, b⟩ := D
  refine ⟨fd, F.ok sc_reset (fun vs H Q E h => ?_) (fun cdv A outer s H vs Q E hr h => ?_), b⟩
  · obtain ⟨p, ab, c, Z, rfl, _⟩ := h
    rfl
  · obtain ⟨p, ab, c, Z, rfl, hc, hu, k⟩ := h
    obtain ⟨⟨dx, an, ad, adt, ai, hp, hn, hd, hdt, hi, z1, z2, z3, z4⟩, hb⟩ := hc
    refine ⟨_, pss_one (ps_fld (pv 0) (pmeth0 (pv 0) Y.cl m O hr pass0) rfl), ?_⟩
    refine ⟨_, rfl, p, dx, _, rfl, hp, lk_m1 .., p, dx, _, c.made.hasId, c.made.ir, rfl, hp, lk_has .., lk_width .., hu, ?_⟩
    refine ⟨_, rfl, p, C, dx, _, rfl, hp, Y.cl, Y.nI, (by show 9 < 1000; decide), ?_⟩
    rw [put_ins]
    have kp : Keep [p] H (upd H p (.ins C dx (cf { c with instruction := insR c.made.hasId c.made.ir } an ad ab adt ai))) := (Keep.refl _ H).upd (by simp)
    refine k _ (ChipAt.put (c := c) hp hn hd hb z1 z2 kp rfl rfl upd_same ?_ ?_ z3 z4) kp.one
    · rw [upd_ne (ne_lst_ins hdt hp)]; exact hdt
    · rw [upd_ne (ne_lst_ins hi hp)]; exact hi
/-! ### seen_by_cells, take_data -/
def seenL (b : Kh264.Board) (c : Kh264.Chip) : List Bool := (c.made.cells.zip c.bits).map fun x => if x.1.drives then x.2 else Kh264.value b x.1.net
def lvl (b : Kh264.Board) : List Bool := (List.range b.nets).map (Kh264.value b)
def spSeen (C : Addr) : Sp := fun vs H Q _ => ∃ (p ab lv : Addr) (c : Kh264.Chip) (Z : List Addr) (b : Kh264.Board), vs = [.ref p, .ref lv] ∧ ChipAt C Z H p ab c ∧ H lv = some (.lst (vb (lvl b))) ∧ ChipWf b.nets c ∧
  ∀ (H' : Hp) (q : Addr), H q = none → Same H H' → H' q = some (.lst (vb (seenL b c))) → Q (.ref q) H'
theorem sc_seen : FnScope ["self", "levels", "seen", "cell", "net"] ["self", "levels"] (defScope (sC 4)) := ⟨rfl, rfl, rfl, by decide +kernel, rfl, by decide +kernel, by decide +kernel⟩
theorem cell_at {c : Kh264.Chip} {n i : Nat} (wf : ChipWf n c) {x : V} (h : (vnets c)[i]? = some x) : ∃ (ce : Kh264.Cell) (bt : Bool), c.made.cells[i]? = some ce ∧ c.bits[i]? = some bt ∧ x = V.int ce.net ∧ (vdrives c)[i]? = some (V.int (bi ce.drives)) ∧ (c.made.cells.zip c.bits)[i]? = some (ce, bt) ∧ ce.net < n := by
  unfold vnets at h
  rw [List.getElem?_map] at h
  cases e : c.made.cells[i]? with
  | none => rw [e] at h; cases h
  | some ce =>
    rw [e] at h
    have hi : i < c.bits.length := by rw [wf.bits]; exact (List.getElem?_eq_some_iff.mp e).1
    have hb : c.bits[i]? = some c.bits[i] := List.getElem?_eq_getElem hi
    refine ⟨ce, _, rfl, hb, (Option.some.inj h).symm, ?_, ?_, wf.nets ce (List.mem_of_getElem? e)⟩
    · unfold vdrives; rw [List.getElem?_map, e]; rfl
    · rw [List.getElem?_zip_eq_some]; exact ⟨e, hb⟩
theorem ok_seen {f C : Addr} (D : Def K "seen_by_cells" "Chip.seen_by_cells" (sC 4) f ["self", "levels"]) (T : Glb mg) (Y : ChipC K C) : Ok P w K mg base 1 f ["self", "levels"] (spSeen C) := by
  obtain ⟨fd, F, b⟩ := D
  refine ⟨fd, F.ok sc_seen (fun vs H Q E h => ?_) (fun cdv A outer s H vs Q E hr h => ?_), b⟩
  · obtain ⟨p, ab, lv, c, Z, b, rfl, _⟩ := h
    rfl
  · obtain ⟨p, ab, lv, c, Z, b, rfl, hc, hlv, wf, k⟩ := h
    obtain ⟨⟨dx, an, ad, adt, ai, hp, hn, hd, hdt, hi, z⟩, hb⟩ := hc
    refine ⟨_, pss_cons (ps_set (i := 2) sc_seen.nd rfl (Or.inl rfl) (pe_lst pa_nil)) (pss_cons (ps_for PassesOwn.never rfl (pi_enum rfl T.enum (pa_cons (pe_fld (pv 0) rfl) pa_nil))
      (pg_tup rfl (pgs_cons (pg_name (i := 3) sc_seen.nd rfl (Or.inl rfl)) (pgs_cons (pg_name (i := 4) sc_seen.nd rfl (Or.inl rfl)) pgs_nil)))
      (pss_one (ps_if (pt_cmpR op_eq (pe_ix ix_list (pe_fld (pv 0) rfl) (pv 3) (fun _ _ => rfl)) pe_int (nomark _))
        (pss_one (ps_expr (pe_bm PySem.F.plainAttrs_list PySem.F.slot_list_append PySem.F.type_list_append mt_append (pv 2) (pa_cons (pe_ix ix_list (pe_fld (pv 0) rfl) (pv 3) (fun _ _ => rfl)) pa_nil))))
        (pss_one (ps_expr (pe_bm PySem.F.plainAttrs_list PySem.F.slot_list_append PySem.F.type_list_append mt_append (pv 2) (pa_cons (pe_ix ix_list (pv 1) (pv 4) (fun _ _ => rfl)) pa_nil)))))))
      (pss_one (ps_ret (pv 2)))), ?_⟩
    refine ⟨Nat.zero_le _, fun q hq => ?_⟩
    have s0 : Same H (upd H q (.lst [])) := same_new (same_refl H) hq
    refine ⟨_, rfl, p, C, dx, _, _, rfl, s0 _ _ hp, Y.cl, Y.nN, lk_nets .., an, _, rfl, SqL.of (s0 _ _ hn), for_enum (K := K) (a := an) (xs := vnets c) (fun i σ H' => ∃ v3 v4 : Option V, σ = [some (.ref p), some (.ref lv), some (.ref q), v3, v4] ∧ Same H H' ∧ H' q = some (.lst (vb ((seenL b c).take i))))
      ⟨none, none, rfl, s0, upd_same⟩ ?_ ?_ ?_⟩
    · rintro i σ H' _ ⟨v3, v4, _, sm, _⟩
      exact SqL.of (sm _ _ hn)
    · rintro i x t σ H' hx ⟨v3, v4, rfl, sm, hq'⟩ ht
      obtain ⟨ce, bt, e1, e2, rfl, e4, e5, e6⟩ := cell_at wf hx
      have s1 : Same H (upd H' t (.tup [.int (i : Nat), V.int ce.net])) := same_new sm (sm.free ht)
      have hq1 : (upd H' t (.tup [.int (i : Nat), V.int ce.net])) q = some (.lst (vb ((seenL b c).take i))) := by rw [upd_ne (ne_of_none hq' ht)]; exact hq'
      have hlen : (vb ((seenL b c).take i)).length < sizeLine := by
        rw [vb_len, List.length_take]
        have q1 : i < c.made.cells.length := (List.getElem?_eq_some_iff.mp e1).1
        have q2 := wf.cells
        exact lt_line (by omega)
      have es : (seenL b c)[i]? = some (if ce.drives = true then bt else Kh264.value b ce.net) := by unfold seenL; rw [List.getElem?_map, e5]; rfl
      refine ⟨t, _, rfl, SqT.of upd_same, rfl, _, _, rfl, _, _, rfl, rfl, ?_⟩
      refine ⟨_, rfl, p, C, dx, _, _, rfl, s1 _ _ hp, Y.cl, Y.nD, lk_drives .., _, rfl, ad, _, _, _, rfl, rfl, SqL.of (s1 _ _ hd), atI_nat e4, rfl, _, rfl, ?_⟩
      have fin : ∀ (bl : Bool), bl = (if ce.drives = true then bt else Kh264.value b ce.net) → (upd (upd H' t (.tup [.int (i : Nat), V.int ce.net])) q (.lst (vb ((seenL b c).take i) ++ [V.int (bi bl)]))) q = some (.lst (vb ((seenL b c).take (i + 1)))) := fun bl e => by
        rw [upd_same, take_snoc es, vb_snoc, e]
      cases hdr : ce.drives with
      | true =>
        rw [hdr] at fin
        refine iteI (fun _ => ?_) (fun n => absurd rfl n)
        refine ⟨_, rfl, .inl ⟨rfl, _, SqL.of hq1⟩, _, rfl, p, C, dx, _, _, rfl, s1 _ _ hp, Y.cl, Y.nB, lk_bits .., _, rfl, ab, _, _, _, rfl, rfl, SqL.of (s1 _ _ hb), atI_nat (vb_get e2), q, _, _, rfl, rfl, hq1, hlen, ?_⟩
        exact ⟨_, _, rfl, same_new s1 hq, fin bt rfl⟩
      | false =>
        rw [hdr] at fin
        refine iteI (fun e => absurd e (by decide)) (fun _ => ?_)
        have hv : (lvl b)[ce.net]? = some (Kh264.value b ce.net) := get_rangeMap _ e6
        refine ⟨_, rfl, .inl ⟨rfl, _, SqL.of hq1⟩, _, rfl, _, rfl, lv, _, _, _, rfl, rfl, SqL.of (s1 _ _ hlv), atI_nat (vb_get hv), q, _, _, rfl, rfl, hq1, hlen, ?_⟩
        exact ⟨_, _, rfl, same_new s1 hq, fin (Kh264.value b ce.net) (by rfl)⟩
    · rintro σ H' ⟨v3, v4, rfl, sm, hq'⟩
      refine ⟨_, rfl, ?_⟩
      have hl : (seenL b c).length ≤ (vnets c).length := by
        unfold seenL vnets
        rw [List.length_map, List.length_zip, List.length_map]
        exact Nat.min_le_left _ _
      rw [List.take_of_length_le hl] at hq'
      exact k H' q hq sm hq'
def spTake (C : Addr) : Sp := fun vs H Q _ => ∃ (p ab lv : Addr) (c : Kh264.Chip) (Z : List Addr) (b : Kh264.Board), vs = [.ref p, .ref lv] ∧ ChipAt C Z H p ab c ∧ H lv = some (.lst (vb (lvl b))) ∧ ChipWf b.nets c ∧ (∀ z ∈ Z, H z ≠ none) ∧
  ∀ H' : Hp, ChipAt C Z H' p ab (takeDr b c) → Keep [p, ab] H H' → Q .non H'
theorem sc_take : FnScope ["self", "levels"] ["self", "levels"] (defScope (sC 3)) := ⟨rfl, rfl, rfl, by decide +kernel, rfl, by decide +kernel, by decide +kernel⟩
theorem inV01 (n : Nat) : inV (.int (n : Int)) [.int 0, .int 1] = decide (n ≤ 1) := by
  rw [Bool.eq_iff_iff]
  simp only [inV, List.any_cons, List.any_nil, eqV, Bool.or_false, Bool.or_eq_true, beq_iff_eq, decide_eq_true_eq]
  omega
/-- a new list laid into a chip's data -/
theorem put_new_data {C : Addr} {Z : List Addr} {H H1 : Hp} {p ab dx an ad adt ai q : Addr} {c : Kh264.Chip} {l : List Bool} (h0 : H p = some (.ins C dx (cf c an ad ab adt ai))) (h1 : H an = some (.lst (vnets c))) (h2 : H ad = some (.lst (vdrives c)))
    (h3 : H ab = some (.lst (vb c.bits))) (h4 : H ai = some (.lst (vb c.ir))) (z1 : an ∉ Z) (z2 : ad ∉ Z) (z4 : ai ∉ Z) (hZ : ∀ z ∈ Z, H z ≠ none) (hq : H q = none) (sm : Same H H1) (hl : H1 q = some (.lst (vb l))) :
    ChipAt C Z (upd H1 p (.ins C dx (putF "data" (.ref q) (cf c an ad ab adt ai)))) p ab { c with dr := l } ∧ Keep [p, ab] H (upd H1 p (.ins C dx (putF "data" (.ref q) (cf c an ad ab adt ai)))) := by
  rw [put_data c an ad ab adt ai l q]
  have kp : Keep [p] H (upd H1 p (.ins C dx (cf { c with dr := l } an ad ab q ai))) := (Keep.of_same sm).upd (by simp)
  refine ⟨ChipAt.put (c := c) h0 h1 h2 h3 z1 z2 kp rfl rfl upd_same ?_ ?_ (fun z => hZ q z hq) z4, kp.one⟩
  · rw [upd_ne (ne_lst_ins hl (sm _ _ h0))]; exact hl
  · rw [upd_ne (ne_lst_ins (sm _ _ h4) (sm _ _ h0))]; exact sm _ _ h4
theorem ok_take {f C g1 g2 : Addr} (D : Def K "take_data" "Chip.take_data" (sC 3) f ["self", "levels"]) (T : Glb mg) (Y : ChipC K C) (m1 : Meth K C "seen_by_cells" g1) (O1 : Ok P w K mg base 1 g1 ["self", "levels"] (spSeen C))
    (m2 : mg "bits_of" = some (.ref g2)) (k2 : PySem.W.keepIn K (.ref g2) = true) (O2 : Ok P w K mg base 1 g2 ["number", "width"] spBits) : Ok P w K mg base 2 f ["self", "levels"] (spTake C) := by
  obtain ⟨fd, F, b⟩ := D
  refine ⟨fd, F.ok sc_take (fun vs H Q E h => ?_) (fun cdv A outer s H vs Q E hr h => ?_), b⟩
  · obtain ⟨p, ab, lv, c, Z, b, rfl, _⟩ := h
    rfl
  · obtain ⟨p, ab, lv, c, Z, b, rfl, hc, hlv, wf, hZ, k⟩ := h
    have hc0 := hc
    obtain ⟨⟨dx, an, ad, adt, ai, hp, hn, hd, hdt, hi, z1, z2, z3, z4⟩, hb⟩ := hc
    refine ⟨_, pss_one (ps_if (pw_and (pt_cmpR op_in_seq (pe_fld (pv 0) rfl) (pe_tup (pa_cons (pgi T.drive) (pa_cons (pgi T.look) pa_nil))) (by with_unfolding_all rfl))
        (pw_and1 (pt_cmpR op_gt (pe_callB call_len_seq (by rfl) T.len PySem.boot_len (pa_cons (pe_fld (pv 0) rfl) pa_nil)) pe_int (nomark _)))).pt
      (pss_one (ps_fld (pv 0) (pmeth (pv 0) Y.cl m1 O1 hr pass0 (pa_cons (pv 1) pa_nil)) rfl))
      (pss_one (ps_if (pw_and (pt_cmpR op_eq (pe_fld (pv 0) rfl) (pgi T.ident) (nomark _)) (pw_and1 (pt_cmpR op_eq (pe_fld (pv 0) rfl) pe_int (nomark _)))).pt
        (pss_one (ps_fld (pv 0) (pcall O2 hr m2 k2 pass0 (pa_cons (pe_fld (pv 0) rfl) (pa_cons (pgi T.idw) pa_nil))) rfl))
        (pss_one (ps_fld (pv 0) (pe_lst (pa_cons pe_int pa_nil)) rfl))))), ?_⟩
    refine ⟨_, rfl, p, C, dx, _, _, rfl, hp, Y.cl, Y.nI, lk_ins .., (by show 2 ≤ sizeLine; decide), fun t ht => ?_⟩
    have s1 : Same H (upd H t (.tup [.int 0, .int 1])) := same_new (same_refl H) ht
    refine ⟨t, _, rfl, .inr (SqT.of upd_same), rfl, rfl, _, rfl, ?_⟩
    show if inV (.int (c.instruction : Int)) [.int 0, .int 1] = true then _ else _
    rw [inV01]
    generalize hH1 : upd H t (.tup [.int 0, .int 1]) = H1 at s1 ⊢
    have nZ1 : ∀ z ∈ Z, H1 z ≠ none := fun z hz e => hZ z hz (s1.free e)
    -- the other ways
    have other : ¬ (c.instruction ≤ 1 ∧ c.made.cells ≠ []) → (tIfS (tAnd (tTest (tOp rEq (tFld K (tVar 0) "instruction") (tC (.int 2)))) (tTest (tOp rEq (tFld K (tVar 0) "has_id") (tC (.int 1)))))
        (sFld K (tVar 0) (tCall spBits [] E0 (tCons (tFld K (tVar 0) "ident") (tCons (tC (.int 32)) tNil))) "data") (sFld K (tVar 0) (tLst (tCons (tC (.int 0)) tNil)) "data"))
        { nx := fun _ H' => Q .non H', rt := Q } (L2.start ["self", "levels"] [V.ref p, V.ref lv]) H1 := fun hno => by
      refine ⟨_, rfl, p, C, dx, _, _, rfl, s1 _ _ hp, Y.cl, Y.nI, lk_ins .., rfl, _, rfl, ?_⟩
      have last : (¬ (c.instruction = 2 ∧ c.made.hasId = true)) → sFld K (tVar 0) (tLst (tCons (tC (.int 0)) tNil)) "data" { nx := fun _ H' => Q .non H', rt := Q } (L2.start ["self", "levels"] [V.ref p, V.ref lv]) H1 := fun hn2 => by
        refine ⟨(by show 1 ≤ sizeLine; decide), fun q hq => ?_⟩
        have s2 : Same H (upd H1 q (.lst [.int 0])) := same_new s1 (s1.free hq)
        refine ⟨_, rfl, p, C, dx, _, rfl, s2 _ _ hp, Y.cl, Y.nDt, (by show 9 < 1000; decide), ?_⟩
        have hk : Kh264.taken b c = [false] := by
          unfold Kh264.taken Kh264.kind
          rw [if_neg hno, if_neg hn2]
        have q2 := put_new_data (l := [false]) hp hn hd hb hi z1 z2 z4 hZ (s1.free hq) s2 (upd_same)
        refine k _ ?_ q2.2
        have e := q2.1
        show ChipAt C Z _ p ab { c with dr := Kh264.taken b c }
        rw [hk]; exact e
      refine iteI (fun e => ?_) (fun e => ?_)
      · refine ⟨_, rfl, p, C, dx, _, _, rfl, s1 _ _ hp, Y.cl, Y.nH, lk_has .., rfl, _, rfl, ?_⟩
        cases hid : c.made.hasId with
        | false =>
          refine iteI (fun e => absurd e (by decide)) (fun _ => ?_)
          exact last fun z => by rw [hid] at z; exact Bool.false_ne_true z.2
        | true =>
          refine iteI (fun _ => ?_) (fun n => absurd rfl n)
          refine ⟨_, rfl, p, C, dx, _, _, rfl, s1 _ _ hp, Y.cl, Y.nId, lk_ident .., c.made.id, 32, rfl, (by decide), fun H2 q hq s2 hl => ?_⟩
          have s3 := s1.trans s2
          refine ⟨_, rfl, p, C, dx, _, rfl, s3 _ _ hp, Y.cl, Y.nDt, (by show 9 < 1000; decide), ?_⟩
          have hk : Kh264.taken b c = Kh264.bitsOf c.made.id 32 := by
            unfold Kh264.taken Kh264.kind
            rw [if_neg hno, if_pos ⟨by omega, hid⟩]
          have q2 := put_new_data (l := Kh264.bitsOf c.made.id 32) hp hn hd hb hi z1 z2 z4 hZ (s1.free hq) s3 hl
          refine k _ ?_ q2.2
          show ChipAt C Z _ p ab { c with dr := Kh264.taken b c }
          rw [hk]; exact q2.1
      · exact last fun z => e (by rw [z.1]; rfl)
    refine iteD (fun hins => ?_) (fun hins => other fun z => hins z.1)
    refine ⟨_, rfl, p, C, dx, _, _, rfl, s1 _ _ hp, Y.cl, Y.nN, lk_nets .., an, _, rfl, .inl (SqL.of (s1 _ _ hn)), _, _, rfl, rfl, _, rfl, ?_⟩
    refine iteD (fun hlen => ?_) (fun hlen => other fun z => hlen ?_)
    · have hne : c.made.cells ≠ [] := fun z => by
        have : (vnets c).length = 0 := by unfold vnets; rw [z]; rfl
        rw [this] at hlen
        exact absurd hlen (by decide)
      refine ⟨_, rfl, p, dx, _, rfl, s1 _ _ hp, lk_m4 .., _, rfl, p, ab, lv, c, Z, b, rfl, hc0.same s1, s1 _ _ hlv, wf, fun H2 q hq s2 hl => ?_⟩
      have s3 := s1.trans s2
      refine ⟨_, rfl, p, C, dx, _, rfl, s3 _ _ hp, Y.cl, Y.nDt, (by show 9 < 1000; decide), ?_⟩
      have hk : Kh264.taken b c = seenL b c := by
        unfold Kh264.taken Kh264.kind
        rw [if_pos ⟨hins, hne⟩]; rfl
      have q2 := put_new_data (l := seenL b c) hp hn hd hb hi z1 z2 z4 hZ (s1.free hq) s3 hl
      refine k _ ?_ q2.2
      show ChipAt C Z _ p ab { c with dr := Kh264.taken b c }
      rw [hk]; exact q2.1
    · have : 0 < c.made.cells.length := List.length_pos_iff.mpr z.2
      unfold vnets
      rw [List.length_map]
      omega
end
end Cc

end

section
set_option Elab.async false
set_option linter.all false
set_option maxRecDepth 100000
set_option maxHeartbeats 4000000
namespace Cc
open PySem PySem.Spec PyProof.Rows L2
section
variable {P : Program} {w : World} {K : PySem.W.Frag} {mg : Str → Option Value} {base : Heap}
theorem put_new_ni {C : Addr} {Z : List Addr} {H H1 : Hp} {p ab dx an ad adt ai q : Addr} {c : Kh264.Chip} {l : List Bool} (h0 : H p = some (.ins C dx (cf c an ad ab adt ai))) (h1 : H an = some (.lst (vnets c))) (h2 : H ad = some (.lst (vdrives c)))
    (h3 : H ab = some (.lst (vb c.bits))) (h4 : H adt = some (.lst (vb c.dr))) (z1 : an ∉ Z) (z2 : ad ∉ Z) (z3 : adt ∉ Z) (hZ : ∀ z ∈ Z, H z ≠ none) (hq : H q = none) (sm : Same H H1) (hl : H1 q = some (.lst (vb l))) :
    ChipAt C Z (upd H1 p (.ins C dx (putF "new_instruction" (.ref q) (cf c an ad ab adt ai)))) p ab { c with ir := l } ∧ Keep [p, ab] H (upd H1 p (.ins C dx (putF "new_instruction" (.ref q) (cf c an ad ab adt ai)))) := by
  rw [put_ni c an ad ab adt ai l q]
  have kp : Keep [p] H (upd H1 p (.ins C dx (cf { c with ir := l } an ad ab adt q))) := (Keep.of_same sm).upd (by simp)
  refine ⟨ChipAt.put (c := c) h0 h1 h2 h3 z1 z2 kp rfl rfl upd_same ?_ ?_ z3 (fun z => hZ q z hq), kp.one⟩
  · rw [upd_ne (ne_lst_ins (sm _ _ h4) (sm _ _ h0))]; exact sm _ _ h4
  · rw [upd_ne (ne_lst_ins hl (sm _ _ h0))]; exact hl
theorem cut1 (l : List Bool) : cutV (vb l) (some 1) none = vb (l.drop 1) := by
  unfold cutV
  have e : HT.sIx (vb l).length 0 (some 1) = min 1 (vb l).length := HT.sIx_nat _ _ 1
  rw [e, HT.sIx_none, vb_len]
  unfold vb
  rw [← List.map_drop]
  cases l with
  | nil => rfl
  | cons a r =>
    have e2 : min 1 (a :: r).length = 1 := by simp
    rw [e2]
    show List.take ((a :: r).length - 1) (List.map (fun b => V.int (bi b)) r) = List.map (fun b => V.int (bi b)) r
    exact List.take_of_length_le (by simp)
theorem head_get {l : List Bool} (h : 1 ≤ l.length) : l[0]? = some (l.headD false) := by
  cases l with
  | nil => simp at h
  | cons a r => rfl
/-! ### shift_data, shift_instruction -/
def spShD (C : Addr) : Sp := fun vs H Q _ => ∃ (p ab : Addr) (y : Bool) (c : Kh264.Chip) (Z : List Addr), vs = [.ref p, .int (bi y)] ∧ ChipAt C Z H p ab c ∧ 1 ≤ c.dr.length ∧ c.dr.length ≤ 64 ∧ (∀ z ∈ Z, H z ≠ none) ∧
  ∀ H' : Hp, ChipAt C Z H' p ab (putDr c (c.dr.drop 1 ++ [y])) → Keep [p, ab] H H' → Q (.int (bi (c.dr.headD false))) H'
theorem sc_shD : FnScope ["self", "coming", "leaving"] ["self", "coming"] (defScope (sC 5)) := ⟨rfl, rfl, rfl, by decide +kernel, rfl, by decide +kernel, by decide +kernel⟩
theorem ok_shD {f C : Addr} (D : Def K "shift_data" "Chip.shift_data" (sC 5) f ["self", "coming"]) (Y : ChipC K C) : Ok P w K mg base 1 f ["self", "coming"] (spShD C) := by
  obtain ⟨fd, F, b⟩ := D
  refine ⟨fd, F.ok sc_shD (fun vs H Q E h => ?_) (fun cdv A outer s H vs Q E hr h => ?_), b⟩
  · obtain ⟨p, ab, y, c, Z, rfl, _⟩ := h
    rfl
  · obtain ⟨p, ab, y, c, Z, rfl, hc, d1, d64, hZ, k⟩ := h
    obtain ⟨⟨dx, an, ad, adt, ai, hp, hn, hd, hdt, hi, z1, z2, z3, z4⟩, hb⟩ := hc
    refine ⟨_, pss_cons (ps_set (i := 2) sc_shD.nd rfl (Or.inl rfl) (pe_ix ix_list (pe_fld (pv 0) rfl) pe_int (fun _ _ => rfl)))
      (pss_cons (ps_fld (pv 0) (pe_op op_cat (pe_slice sl_list (pe_fld (pv 0) rfl) (po_some pe_int) po_none) (pe_lst (pa_cons (pv 1) pa_nil))) rfl) (pss_one (ps_ret (pv 2)))), ?_⟩
    refine ⟨_, rfl, p, C, dx, _, _, rfl, hp, Y.cl, Y.nDt, lk_data .., adt, _, _, _, rfl, rfl, SqL.of hdt, atI_nat (j := 0) (vb_get (head_get d1)), ?_⟩
    refine ⟨_, rfl, p, C, dx, _, _, rfl, hp, Y.cl, Y.nDt, lk_data .., _, rfl, adt, _, rfl, SqL.of hdt, fun q1 hq1 => ?_⟩
    rw [cut1]
    have s1 : Same H (upd H q1 (.lst (vb (c.dr.drop 1)))) := same_new (same_refl H) hq1
    refine ⟨_, rfl, (by show 1 ≤ sizeLine; decide), fun q2 hq2 => ?_⟩
    have n2 : H q2 = none := s1.free hq2
    have s2 : Same H (upd (upd H q1 (.lst (vb (c.dr.drop 1)))) q2 (.lst [V.int (bi y)])) := same_new s1 n2
    have g1 : (upd (upd H q1 (.lst (vb (c.dr.drop 1)))) q2 (.lst [V.int (bi y)])) q1 = some (.lst (vb (c.dr.drop 1))) := by
      rw [upd_ne (ne_of_none (upd_same) hq2)]; exact upd_same
    refine ⟨q1, q2, _, _, rfl, rfl, g1, upd_same, ?_, fun q3 hq3 => ?_⟩
    · rw [vb_len, List.length_drop]
      exact le_line (by simp; omega)
    · have n3 : H q3 = none := s2.free hq3
      have s3 : Same H (upd (upd (upd H q1 (.lst (vb (c.dr.drop 1)))) q2 (.lst [V.int (bi y)])) q3 (.lst (vb (c.dr.drop 1) ++ [V.int (bi y)]))) := same_new s2 n3
      refine ⟨_, rfl, p, C, dx, _, rfl, s3 _ _ hp, Y.cl, Y.nDt, (by show 9 < 1000; decide), ?_⟩
      refine ⟨_, rfl, ?_⟩
      have q := put_new_data (l := c.dr.drop 1 ++ [y]) hp hn hd hb hi z1 z2 z4 hZ n3 s3 (by rw [vb_snoc]; exact upd_same)
      exact k _ q.1 q.2
def spShI (C : Addr) : Sp := fun vs H Q _ => ∃ (p ab : Addr) (y : Bool) (c : Kh264.Chip) (Z : List Addr), vs = [.ref p, .int (bi y)] ∧ ChipAt C Z H p ab c ∧ 1 ≤ c.ir.length ∧ c.ir.length ≤ 64 ∧ (∀ z ∈ Z, H z ≠ none) ∧
  ∀ H' : Hp, ChipAt C Z H' p ab (putIr c (c.ir.drop 1 ++ [y])) → Keep [p, ab] H H' → Q (.int (bi (c.ir.headD false))) H'
theorem sc_shI : FnScope ["self", "coming", "leaving"] ["self", "coming"] (defScope (sC 8)) := ⟨rfl, rfl, rfl, by decide +kernel, rfl, by decide +kernel, by decide +kernel⟩
theorem ok_shI {f C : Addr} (D : Def K "shift_instruction" "Chip.shift_instruction" (sC 8) f ["self", "coming"]) (Y : ChipC K C) : Ok P w K mg base 1 f ["self", "coming"] (spShI C) := by
  obtain ⟨fd, F, b⟩ := D
  refine ⟨fd, F.ok sc_shI (fun vs H Q E h => ?_) (fun cdv A outer s H vs Q E hr h => ?_), b⟩
  · obtain ⟨p, ab, y, c, Z, rfl, _⟩ := h
    rfl
  · obtain ⟨p, ab, y, c, Z, rfl, hc, d1, d64, hZ, k⟩ := h
    obtain ⟨⟨dx, an, ad, adt, ai, hp, hn, hd, hdt, hi, z1, z2, z3, z4⟩, hb⟩ := hc
    refine ⟨_, pss_cons (ps_set (i := 2) sc_shI.nd rfl (Or.inl rfl) (pe_ix ix_list (pe_fld (pv 0) rfl) pe_int (fun _ _ => rfl)))
      (pss_cons (ps_fld (pv 0) (pe_op op_cat (pe_slice sl_list (pe_fld (pv 0) rfl) (po_some pe_int) po_none) (pe_lst (pa_cons (pv 1) pa_nil))) rfl) (pss_one (ps_ret (pv 2)))), ?_⟩
    refine ⟨_, rfl, p, C, dx, _, _, rfl, hp, Y.cl, Y.nNi, lk_ni .., ai, _, _, _, rfl, rfl, SqL.of hi, atI_nat (j := 0) (vb_get (head_get d1)), ?_⟩
    refine ⟨_, rfl, p, C, dx, _, _, rfl, hp, Y.cl, Y.nNi, lk_ni .., _, rfl, ai, _, rfl, SqL.of hi, fun q1 hq1 => ?_⟩
    rw [cut1]
    have s1 : Same H (upd H q1 (.lst (vb (c.ir.drop 1)))) := same_new (same_refl H) hq1
    refine ⟨_, rfl, (by show 1 ≤ sizeLine; decide), fun q2 hq2 => ?_⟩
    have n2 : H q2 = none := s1.free hq2
    have s2 : Same H (upd (upd H q1 (.lst (vb (c.ir.drop 1)))) q2 (.lst [V.int (bi y)])) := same_new s1 n2
    have g1 : (upd (upd H q1 (.lst (vb (c.ir.drop 1)))) q2 (.lst [V.int (bi y)])) q1 = some (.lst (vb (c.ir.drop 1))) := by
      rw [upd_ne (ne_of_none (upd_same) hq2)]; exact upd_same
    refine ⟨q1, q2, _, _, rfl, rfl, g1, upd_same, ?_, fun q3 hq3 => ?_⟩
    · rw [vb_len, List.length_drop]
      exact le_line (by simp; omega)
    · have n3 : H q3 = none := s2.free hq3
      have s3 : Same H (upd (upd (upd H q1 (.lst (vb (c.ir.drop 1)))) q2 (.lst [V.int (bi y)])) q3 (.lst (vb (c.ir.drop 1) ++ [V.int (bi y)]))) := same_new s2 n3
      refine ⟨_, rfl, p, C, dx, _, rfl, s3 _ _ hp, Y.cl, Y.nNi, (by show 9 < 1000; decide), ?_⟩
      refine ⟨_, rfl, ?_⟩
      have q := put_new_ni (l := c.ir.drop 1 ++ [y]) hp hn hd hb hdt z1 z2 z3 hZ n3 s3 (by rw [vb_snoc]; exact upd_same)
      exact k _ q.1 q.2
/-! ### take_instruction, set_instruction -/
def spTakeI (C : Addr) : Sp := fun vs H Q _ => ∃ (p ab : Addr) (c : Kh264.Chip) (Z : List Addr), vs = [.ref p] ∧ ChipAt C Z H p ab c ∧ c.made.ir ≤ 64 ∧ (∀ z ∈ Z, H z ≠ none) ∧ ∀ H' : Hp, ChipAt C Z H' p ab (takeIr c) → Keep [p, ab] H H' → Q .non H'
theorem sc_takeI : FnScope ["self"] ["self"] (defScope (sC 7)) := ⟨rfl, rfl, rfl, by decide +kernel, rfl, by decide +kernel, by decide +kernel⟩
theorem ok_takeI {f C g2 : Addr} (D : Def K "take_instruction" "Chip.take_instruction" (sC 7) f ["self"]) (Y : ChipC K C)
    (m2 : mg "bits_of" = some (.ref g2)) (k2 : PySem.W.keepIn K (.ref g2) = true) (O2 : Ok P w K mg base 1 g2 ["number", "width"] spBits) : Ok P w K mg base 2 f ["self"] (spTakeI C) := by
  obtain ⟨fd, F, b⟩ := D
  refine ⟨fd, F.ok sc_takeI (fun vs H Q E h => ?_) (fun cdv A outer s H vs Q E hr h => ?_), b⟩
  · obtain ⟨p, ab, c, Z, rfl, _⟩ := h
    rfl
  · obtain ⟨p, ab, c, Z, rfl, hc, hu, hZ, k⟩ := h
    obtain ⟨⟨dx, an, ad, adt, ai, hp, hn, hd, hdt, hi, z1, z2, z3, z4⟩, hb⟩ := hc
    refine ⟨_, pss_one (ps_fld (pv 0) (pcall O2 hr m2 k2 pass0 (pa_cons pe_int (pa_cons (pe_fld (pv 0) rfl) pa_nil))) rfl), ?_⟩
    refine ⟨_, rfl, p, C, dx, _, _, rfl, hp, Y.cl, Y.nW, lk_width .., 1, c.made.ir, rfl, hu, fun H2 q hq s2 hl => ?_⟩
    refine ⟨_, rfl, p, C, dx, _, rfl, s2 _ _ hp, Y.cl, Y.nNi, (by show 9 < 1000; decide), ?_⟩
    have q := put_new_ni (l := Kh264.bitsOf 1 c.made.ir) hp hn hd hb hdt z1 z2 z3 hZ hq s2 hl
    exact k _ q.1 q.2
def spSetI (C : Addr) : Sp := fun vs H Q _ => ∃ (p ab : Addr) (c : Kh264.Chip) (Z : List Addr), vs = [.ref p] ∧ ChipAt C Z H p ab c ∧ ∀ H' : Hp, ChipAt C Z H' p ab (setIr c) → Keep [p, ab] H H' → Q .non H'
theorem sc_setI : FnScope ["self"] ["self"] (defScope (sC 9)) := ⟨rfl, rfl, rfl, by decide +kernel, rfl, by decide +kernel, by decide +kernel⟩
theorem ok_setI {f C g2 : Addr} (D : Def K "set_instruction" "Chip.set_instruction" (sC 9) f ["self"]) (Y : ChipC K C)
    (m2 : mg "number_of" = some (.ref g2)) (k2 : PySem.W.keepIn K (.ref g2) = true) (O2 : Ok P w K mg base 1 g2 ["bits"] spNum) : Ok P w K mg base 2 f ["self"] (spSetI C) := by
  obtain ⟨fd, F, b⟩ := D
  refine ⟨fd, F.ok sc_setI (fun vs H Q E h => ?_) (fun cdv A outer s H vs Q E hr h => ?_), b⟩
  · obtain ⟨p, ab, c, Z, rfl, _⟩ := h
    rfl
  · obtain ⟨p, ab, c, Z, rfl, hc, k⟩ := h
    obtain ⟨⟨dx, an, ad, adt, ai, hp, hn, hd, hdt, hi, z1, z2, z3, z4⟩, hb⟩ := hc
    refine ⟨_, pss_one (ps_fld (pv 0) (pcall O2 hr m2 k2 pass0 (pa_cons (pe_fld (pv 0) rfl) pa_nil)) rfl), ?_⟩
    refine ⟨_, rfl, p, C, dx, _, _, rfl, hp, Y.cl, Y.nNi, lk_ni .., ai, c.ir, rfl, hi, ?_⟩
    refine ⟨_, rfl, p, C, dx, _, rfl, hp, Y.cl, Y.nI, (by show 9 < 1000; decide), ?_⟩
    rw [put_ins]
    have kp : Keep [p] H (upd H p (.ins C dx (cf { c with instruction := Kh264.numberOf c.ir } an ad ab adt ai))) := (Keep.refl _ H).upd (by simp)
    refine k _ (ChipAt.put (c := c) hp hn hd hb z1 z2 kp rfl rfl upd_same ?_ ?_ z3 z4) kp.one
    · rw [upd_ne (ne_lst_ins hdt hp)]; exact hdt
    · rw [upd_ne (ne_lst_ins hi hp)]; exact hi
/-! ### set_data -/
def nbits (c : Kh264.Chip) : List Bool := (c.made.cells.zip (c.bits.zip c.dr)).map fun x => if x.1.drives then x.2.2 else x.2.1
def spSetD (C : Addr) : Sp := fun vs H Q _ => ∃ (p ab : Addr) (c : Kh264.Chip) (Z : List Addr) (n : Nat), vs = [.ref p] ∧ ChipAt C Z H p ab c ∧ ab ∈ Z ∧ ChipWf n c ∧ (c.instruction ≤ 1 → c.made.cells ≠ [] → c.dr.length = c.made.cells.length) ∧
  ∀ H' : Hp, ChipAt C Z H' p ab (setBits c) → Keep [p, ab] H H' → Q .non H'
theorem sc_setD : FnScope ["self", "cell", "drives"] ["self"] (defScope (sC 6)) := ⟨rfl, rfl, rfl, by decide +kernel, rfl, by decide +kernel, by decide +kernel⟩
theorem ok_setD {f C : Addr} (D : Def K "set_data" "Chip.set_data" (sC 6) f ["self"]) (T : Glb mg) (Y : ChipC K C) : Ok P w K mg base 1 f ["self"] (spSetD C) := by
  obtain ⟨fd, F, b⟩ := D
  refine ⟨fd, F.ok sc_setD (fun vs H Q E h => ?_) (fun cdv A outer s H vs Q E hr h => ?_), b⟩
  · obtain ⟨p, ab, c, Z, n, rfl, _⟩ := h
    rfl
  · obtain ⟨p, ab, c, Z, n, rfl, hc, hab, wf, hmid, k⟩ := h
    have hc0 := hc
    obtain ⟨⟨dx, an, ad, adt, ai, hp, hn, hd, hdt, hi, z1, z2, z3, z4⟩, hb⟩ := hc
    refine ⟨_, pss_cons (ps_if (pt_cmpR op_notIn_seq (pe_fld (pv 0) rfl) (pe_tup (pa_cons (pgi T.drive) (pa_cons (pgi T.look) pa_nil))) (by with_unfolding_all rfl)) (pss_one ps_retN) pss_nil)
      (pss_one (ps_for PassesOwn.never rfl (pi_enum rfl T.enum (pa_cons (pe_fld (pv 0) rfl) pa_nil))
        (pg_tup rfl (pgs_cons (pg_name (i := 1) sc_setD.nd rfl (Or.inl rfl)) (pgs_cons (pg_name (i := 2) sc_setD.nd rfl (Or.inl rfl)) pgs_nil)))
        (pss_one (ps_if (pt_cmpR op_eq (pv 2) pe_int (nomark _)) (pss_one (ps_asg (pe_ix ix_list (pe_fld (pv 0) rfl) (pv 1) (fun _ _ => rfl)) (pg_sub (pe_fld (pv 0) rfl) (pv 1) set_list))) pss_nil)))), ?_⟩
    refine ⟨_, rfl, p, C, dx, _, _, rfl, hp, Y.cl, Y.nI, lk_ins .., (by show 2 ≤ sizeLine; decide), fun t ht => ?_⟩
    have s1 : Same H (upd H t (.tup [.int 0, .int 1])) := same_new (same_refl H) ht
    refine ⟨t, _, rfl, .inr (SqT.of upd_same), rfl, rfl, _, rfl, ?_⟩
    show if (!inV (.int (c.instruction : Int)) [.int 0, .int 1]) = true then _ else _
    rw [inV01]
    generalize hH1 : upd H t (.tup [.int 0, .int 1]) = H1 at s1 ⊢
    by_cases hins : c.instruction ≤ 1
    · rw [decide_eq_true hins]
      by_cases hce : c.made.cells = []
      · -- no cells
        refine ⟨_, rfl, p, C, dx, _, _, rfl, s1 _ _ hp, Y.cl, Y.nD, lk_drives .., ad, _, rfl, SqL.of (s1 _ _ hd), for_enum (K := K) (a := ad) (xs := vdrives c) (fun i σ H' => Same H H') s1 ?_ ?_ ?_⟩
        · exact fun i σ H' _ sm => SqL.of (sm _ _ hd)
        · intro i x t' σ H' hx _ _
          unfold vdrives at hx
          rw [hce] at hx
          cases hx
        · intro σ H' sm
          have e : setBits c = c := by
            unfold setBits Kh264.kind
            rw [if_neg (fun z => z.2 hce)]
            by_cases h2 : c.instruction = 2 ∧ c.made.hasId = true
            · rw [if_pos h2]
            · rw [if_neg h2]
          refine k H' ?_ (Keep.of_same sm)
          rw [e]
          exact hc0.same sm
      · have hlen := hmid hins hce
        have hkind : setBits c = { c with bits := nbits c } := by
          unfold setBits Kh264.kind
          rw [if_pos ⟨hins, hce⟩]; rfl
        have hbl := wf.bits
        have nl : (nbits c).length = c.bits.length := by
          unfold nbits
          rw [List.length_map, List.length_zip, List.length_zip]; omega
        refine ⟨_, rfl, p, C, dx, _, _, rfl, s1 _ _ hp, Y.cl, Y.nD, lk_drives .., ad, _, rfl, SqL.of (s1 _ _ hd), for_enum (K := K) (a := ad) (xs := vdrives c) (fun i σ H' => (∃ v1 v2 : Option V, σ = [some (.ref p), v1, v2]) ∧ Keep [ab] H H' ∧ H' ab = some (.lst (vb ((nbits c).take i ++ c.bits.drop i))))
          ⟨⟨none, none, rfl⟩, Keep.of_same s1, s1 _ _ hb⟩ ?_ ?_ ?_⟩
        · rintro i σ H' _ ⟨_, kp, _⟩
          exact SqL.of (kp _ _ hd (fun z => z2 ((List.mem_singleton.mp z) ▸ hab)))
        · rintro i x t' σ H' hx ⟨⟨v1, v2, rfl⟩, kp, hb'⟩ ht'
          have ne : ∀ {x : Addr}, x ∉ Z → x ∉ [ab] := fun {x} hz m => hz ((List.mem_singleton.mp m) ▸ hab)
          have hpab : p ∉ [ab] := fun m => ne_lst_ins hb hp (List.mem_singleton.mp m).symm
          unfold vdrives at hx
          rw [List.getElem?_map] at hx
          cases ec : c.made.cells[i]? with
          | none => rw [ec] at hx; cases hx
          | some ce =>
            rw [ec] at hx
            have ex : x = V.int (bi ce.drives) := (Option.some.inj hx).symm
            subst ex
            have hi1 : i < c.made.cells.length := (List.getElem?_eq_some_iff.mp ec).1
            have ebt : c.bits[i]? = some c.bits[i] := List.getElem?_eq_getElem (by omega)
            have edr : c.dr[i]? = some c.dr[i] := List.getElem?_eq_getElem (by omega)
            generalize c.bits[i] = bt at ebt
            generalize c.dr[i] = dr at edr
            have en : (nbits c)[i]? = some (if ce.drives = true then dr else bt) := by
              unfold nbits
              rw [List.getElem?_map]
              have : (c.made.cells.zip (c.bits.zip c.dr))[i]? = some (ce, (bt, dr)) := by
                rw [List.getElem?_zip_eq_some]
                refine ⟨ec, ?_⟩
                rw [List.getElem?_zip_eq_some]
                exact ⟨ebt, edr⟩
              rw [this]; rfl
            have kp1 : Keep [ab] H (upd H' t' (.tup [.int (i : Nat), V.int (bi ce.drives)])) := fun b o e nb => by
              rw [upd_ne (ne_of_none (kp b o e nb) ht')]; exact kp b o e nb
            have hb1 : (upd H' t' (.tup [.int (i : Nat), V.int (bi ce.drives)])) ab = some (.lst (vb ((nbits c).take i ++ c.bits.drop i))) := by rw [upd_ne (ne_of_none hb' ht')]; exact hb'
            refine ⟨t', _, rfl, SqT.of upd_same, rfl, _, _, rfl, _, _, rfl, rfl, ?_⟩
            refine ⟨_, rfl, rfl, _, rfl, ?_⟩
            have hli : ((nbits c).take i).length = i := by rw [List.length_take]; omega
            cases hdr : ce.drives with
            | true =>
              rw [hdr] at en hb1 kp1
              refine iteI (fun _ => ?_) (fun n => absurd rfl n)
              refine ⟨_, rfl, p, C, dx, _, _, rfl, kp1 _ _ hp hpab, Y.cl, Y.nDt, lk_data .., _, rfl, adt, _, _, _, rfl, rfl, SqL.of (kp1 _ _ hdt (ne z3)), atI_nat (vb_get edr), ?_⟩
              refine ⟨_, rfl, p, C, dx, _, _, rfl, kp1 _ _ hp hpab, Y.cl, Y.nB, lk_bits .., _, rfl, ab, _, _, i, rfl, rfl, hb1, ?_, ?_⟩
              · unfold ixN
                rw [if_pos (by omega), vb_len, List.length_append, hli, List.length_drop, if_pos (by omega)]
                rfl
              · refine ⟨⟨_, _, rfl⟩, kp1.upd (by simp), ?_⟩
                rw [upd_same]
                have e1 : ((nbits c).take i ++ c.bits.drop i).set i dr = ((nbits c).take i ++ [dr]) ++ c.bits.drop (i + 1) := set_mid hli ebt
                have e2 : (vb ((nbits c).take i ++ c.bits.drop i)).set i (V.int (bi dr)) = vb (((nbits c).take i ++ c.bits.drop i).set i dr) := by
                  unfold vb; rw [List.map_set]
                rw [e2, e1, take_snoc en]
                rfl
            | false =>
              rw [hdr] at en hb1 kp1
              refine iteI (fun e => absurd e (by decide)) (fun _ => ?_)
              refine ⟨⟨_, _, rfl⟩, kp1, ?_⟩
              rw [hb1, take_snoc en, drop_cons' ebt, List.append_assoc]
              rfl
        · rintro σ H' ⟨_, kp, hb'⟩
          have ne : ∀ {x : Addr}, x ∉ Z → x ∉ [ab] := fun {x} hz m => hz ((List.mem_singleton.mp m) ▸ hab)
          have hpab : p ∉ [ab] := fun m => ne_lst_ins hb hp (List.mem_singleton.mp m).symm
          have e : (vdrives c).length = c.bits.length := by unfold vdrives; rw [List.length_map]; omega
          rw [e, List.drop_length, List.append_nil, List.take_of_length_le (by omega)] at hb'
          refine k H' ?_ (kp.mono fun b hb => by simp at hb; simp [hb])
          rw [hkind]
          exact ⟨⟨dx, an, ad, adt, ai, kp _ _ hp hpab, kp _ _ hn (ne z1), kp _ _ hd (ne z2), kp _ _ hdt (ne z3), kp _ _ hi (ne z4), z1, z2, z3, z4⟩, hb'⟩
    · rw [decide_eq_false hins]
      have e : setBits c = c := by
        unfold setBits Kh264.kind
        rw [if_neg (fun z => hins z.1)]
        by_cases h2 : c.instruction = 2 ∧ c.made.hasId = true
        · rw [if_pos h2]
        · rw [if_neg h2]
      refine k H1 ?_ (Keep.of_same s1)
      rw [e]
      exact hc0.same s1
/-! ### nets_driven_to_0 -/
def spDriven (C : Addr) : Sp := fun vs H Q _ => ∃ (p ab : Addr) (c : Kh264.Chip) (Z : List Addr) (n : Nat), vs = [.ref p] ∧ ChipAt C Z H p ab c ∧ ChipWf n c ∧
  ∀ (H' : Hp) (q : Addr), H q = none → Same H H' → H' q = some (.lst (vn (drives0 c))) → Q (.ref q) H'
def drv (c : Kh264.Chip) (i : Nat) : List Nat := (((c.made.cells.zip c.bits).take i).filter fun x => x.1.drives && !x.2).map fun x => x.1.net
theorem sc_driven : FnScope ["self", "driven", "cell", "net"] ["self"] (defScope (sC 10)) := ⟨rfl, rfl, rfl, by decide +kernel, rfl, by decide +kernel, by decide +kernel⟩
theorem drv_snoc {c : Kh264.Chip} {i : Nat} {ce : Kh264.Cell} {bt : Bool} (h : (c.made.cells.zip c.bits)[i]? = some (ce, bt)) : drv c (i + 1) = drv c i ++ (if (ce.drives && !bt) = true then [ce.net] else []) := by
  unfold drv
  rw [take_snoc h, List.filter_append, List.map_append]
  congr 1
  by_cases e : (ce.drives && !bt) = true
  · rw [if_pos e, List.filter_cons, if_pos e]; rfl
  · rw [if_neg e, List.filter_cons, if_neg e]; rfl
theorem drv_len (c : Kh264.Chip) (i : Nat) : (drv c i).length ≤ i := by
  unfold drv
  rw [List.length_map]
  refine Nat.le_trans (List.length_filter_le _ _) ?_
  rw [List.length_take]
  exact Nat.min_le_left _ _
theorem ok_driven {f C : Addr} (D : Def K "nets_driven_to_0" "Chip.nets_driven_to_0" (sC 10) f ["self"]) (T : Glb mg) (Y : ChipC K C) : Ok P w K mg base 1 f ["self"] (spDriven C) := by
  obtain ⟨fd, F, b⟩ := D
  refine ⟨fd, F.ok sc_driven (fun vs H Q E h => ?_) (fun cdv A outer s H vs Q E hr h => ?_), b⟩
  · obtain ⟨p, ab, c, Z, n, rfl, _⟩ := h
    rfl
  · obtain ⟨p, ab, c, Z, n, rfl, hc, wf, k⟩ := h
    obtain ⟨⟨dx, an, ad, adt, ai, hp, hn, hd, hdt, hi, z⟩, hb⟩ := hc
    refine ⟨_, pss_cons (ps_if (pt_cmpR op_ne (pe_fld (pv 0) rfl) (pgi T.drive) (nomark _)) (pss_one (ps_ret (pe_lst pa_nil))) pss_nil)
      (pss_cons (ps_set (i := 1) sc_driven.nd rfl (Or.inl rfl) (pe_lst pa_nil))
      (pss_cons (ps_for PassesOwn.never rfl (pi_enum rfl T.enum (pa_cons (pe_fld (pv 0) rfl) pa_nil))
        (pg_tup rfl (pgs_cons (pg_name (i := 2) sc_driven.nd rfl (Or.inl rfl)) (pgs_cons (pg_name (i := 3) sc_driven.nd rfl (Or.inl rfl)) pgs_nil)))
        (pss_one (ps_if (pw_and (pt_cmpR op_eq (pe_ix ix_list (pe_fld (pv 0) rfl) (pv 2) (fun _ _ => rfl)) pe_int (nomark _)) (pw_and1 (pt_cmpR op_eq (pe_ix ix_list (pe_fld (pv 0) rfl) (pv 2) (fun _ _ => rfl)) pe_int (nomark _)))).pt
          (pss_one (ps_expr (pe_bm PySem.F.plainAttrs_list PySem.F.slot_list_append PySem.F.type_list_append mt_append (pv 1) (pa_cons (pv 3) pa_nil)))) pss_nil)))
      (pss_one (ps_ret (pv 1))))), ?_⟩
    refine ⟨_, rfl, p, C, dx, _, _, rfl, hp, Y.cl, Y.nI, lk_ins .., rfl, _, rfl, ?_⟩
    refine iteNI (fun hne => ?_) (fun he => ?_)
    · refine ⟨Nat.zero_le _, fun q hq => ?_⟩
      refine k _ q hq (same_new (same_refl H) hq) ?_
      rw [upd_same]
      unfold drives0
      rw [if_neg (fun z => hne (by rw [z]; rfl))]
      rfl
    · have h0 : c.instruction = 0 := by omega
      refine ⟨Nat.zero_le _, fun q hq => ?_⟩
      have s0 : Same H (upd H q (.lst [])) := same_new (same_refl H) hq
      refine ⟨_, rfl, p, C, dx, _, _, rfl, s0 _ _ hp, Y.cl, Y.nN, lk_nets .., an, _, rfl, SqL.of (s0 _ _ hn), for_enum (K := K) (a := an) (xs := vnets c) (fun i σ H' => ∃ v2 v3 : Option V, σ = [some (.ref p), some (.ref q), v2, v3] ∧ Same H H' ∧ H' q = some (.lst (vn (drv c i))))
        ⟨none, none, rfl, s0, upd_same⟩ ?_ ?_ ?_⟩
      · rintro i σ H' _ ⟨v2, v3, _, sm, _⟩
        exact SqL.of (sm _ _ hn)
      · rintro i x t σ H' hx ⟨v2, v3, rfl, sm, hq'⟩ ht
        obtain ⟨ce, bt, e1, e2, rfl, e4, e5, e6⟩ := cell_at wf hx
        have s1 : Same H (upd H' t (.tup [.int (i : Nat), V.int ce.net])) := same_new sm (sm.free ht)
        have hq1 : (upd H' t (.tup [.int (i : Nat), V.int ce.net])) q = some (.lst (vn (drv c i))) := by rw [upd_ne (ne_of_none hq' ht)]; exact hq'
        have hlen : (vn (drv c i)).length < sizeLine := by
          rw [vn_len]
          have q1 : i < c.made.cells.length := (List.getElem?_eq_some_iff.mp e1).1
          have q2 := wf.cells
          have q3 := drv_len c i
          exact lt_line (by omega)
        have en := drv_snoc e5
        refine ⟨t, _, rfl, SqT.of upd_same, rfl, _, _, rfl, _, _, rfl, rfl, ?_⟩
        refine ⟨_, rfl, p, C, dx, _, _, rfl, s1 _ _ hp, Y.cl, Y.nD, lk_drives .., _, rfl, ad, _, _, _, rfl, rfl, SqL.of (s1 _ _ hd), atI_nat e4, rfl, _, rfl, ?_⟩
        cases hdr : ce.drives with
        | false =>
          rw [hdr] at en
          refine iteI (fun e => absurd e (by decide)) (fun _ => ?_)
          refine ⟨_, _, rfl, s1, ?_⟩
          rw [hq1, en]
          rw [if_neg (by simp), List.append_nil]
        | true =>
          rw [hdr] at en
          refine iteI (fun _ => ?_) (fun n => absurd rfl n)
          refine ⟨_, rfl, p, C, dx, _, _, rfl, s1 _ _ hp, Y.cl, Y.nB, lk_bits .., _, rfl, ab, _, _, _, rfl, rfl, SqL.of (s1 _ _ hb), atI_nat (vb_get e2), rfl, _, rfl, ?_⟩
          cases bt with
          | true =>
            refine iteI (fun e => absurd e (by decide)) (fun _ => ?_)
            refine ⟨_, _, rfl, s1, ?_⟩
            rw [hq1, en]
            rw [if_neg (by decide), List.append_nil]
          | false =>
            refine iteI (fun _ => ?_) (fun n => absurd rfl n)
            refine ⟨_, rfl, .inl ⟨rfl, _, SqL.of hq1⟩, _, rfl, q, _, _, rfl, rfl, hq1, hlen, ?_⟩
            refine ⟨_, _, rfl, same_new s1 hq, ?_⟩
            rw [upd_same, en, if_pos (by decide), vn_snoc]
      · rintro σ H' ⟨v2, v3, rfl, sm, hq'⟩
        refine ⟨_, rfl, ?_⟩
        refine k H' q hq sm ?_
        rw [hq']
        unfold drives0 drv
        rw [if_pos h0, List.take_of_length_le (by unfold vnets; rw [List.length_zip, List.length_map]; exact Nat.min_le_left _ _)]
end
end Cc

end

section
set_option Elab.async false
set_option linter.all false
set_option maxRecDepth 100000
set_option maxHeartbeats 4000000
namespace Cc
open PySem PySem.Spec PyProof.Rows L2
/-! ### an instance that is being filled -/
def HasL (H : Hp) (L : List (Addr × List V)) : Prop := ∀ x ∈ L, H x.1 = some (.lst x.2)
section
variable {H Hk : Hp} {p dx C q : Addr} {fs fs' : List (Str × V)} {L : List (Addr × List V)} {ys : List V}
theorem keep_none (kp : Keep [p] H Hk) (hp : Hk p = some (.ins C dx fs)) (hq : Hk q = none) : H q = none := by
  cases e : H q with
  | none => rfl
  | some o =>
    by_cases hpq : q = p
    · rw [hpq, hp] at hq; cases hq
    · rw [kp q o e (fun m => hpq (List.mem_singleton.mp m))] at hq; cases hq
theorem addNew (kp : Keep [p] H Hk) (hp : Hk p = some (.ins C dx fs)) (hL : HasL Hk L) (hq : Hk q = none) :
    Keep [p] H (upd Hk q (.lst ys)) ∧ (upd Hk q (.lst ys)) p = some (.ins C dx fs) ∧ HasL (upd Hk q (.lst ys)) ((q, ys) :: L) := by
  refine ⟨kp.new (keep_none kp hp hq), by rw [upd_ne (ne_of_none hp hq)]; exact hp, fun x hx => ?_⟩
  rcases List.mem_cons.mp hx with e | e
  · subst e; exact upd_same
  · rw [upd_ne (ne_of_none (hL x e) hq)]; exact hL x e
theorem putP (kp : Keep [p] H Hk) (hp : Hk p = some (.ins C dx fs)) (hL : HasL Hk L) :
    Keep [p] H (upd Hk p (.ins C dx fs')) ∧ (upd Hk p (.ins C dx fs')) p = some (.ins C dx fs') ∧ HasL (upd Hk p (.ins C dx fs')) L := by
  refine ⟨kp.upd (by simp), upd_same, fun x hx => ?_⟩
  rw [upd_ne (ne_lst_ins (hL x hx) hp)]; exact hL x hx
end
def gk (vals : List V) : List (Str × V) := (["ident", "width", "has_id", "cell_nets", "cell_drives", "cell_bits", "data", "new_instruction", "instruction"] : List Str).zip vals
section
variable (a b c d e f g h i : V)
theorem gp1 : putF "ident" a [] = gk [a] := by kernel_rfl
theorem gp2 : putF "width" b (gk [a]) = gk [a, b] := by kernel_rfl
theorem gp3 : putF "has_id" c (gk [a, b]) = gk [a, b, c] := by kernel_rfl
theorem gp4 : putF "cell_nets" d (gk [a, b, c]) = gk [a, b, c, d] := by kernel_rfl
theorem gp5 : putF "cell_drives" e (gk [a, b, c, d]) = gk [a, b, c, d, e] := by kernel_rfl
theorem gp6 : putF "cell_bits" f (gk [a, b, c, d, e]) = gk [a, b, c, d, e, f] := by kernel_rfl
theorem gp7 : putF "data" g (gk [a, b, c, d, e, f]) = gk [a, b, c, d, e, f, g] := by kernel_rfl
theorem gp8 : putF "new_instruction" h (gk [a, b, c, d, e, f, g]) = gk [a, b, c, d, e, f, g, h] := by kernel_rfl
theorem gp9 : putF "instruction" i (gk [a, b, c, d, e, f, g, h]) = gk [a, b, c, d, e, f, g, h, i] := by kernel_rfl
theorem gl5 : (gk [a, b, c, d, e]).lookup ("cell_nets" : Str) = some d := by kernel_rfl
theorem gl8h : (gk [a, b, c, d, e, f, g, h]).lookup ("has_id" : Str) = some c := by kernel_rfl
theorem gl8w : (gk [a, b, c, d, e, f, g, h]).lookup ("width" : Str) = some b := by kernel_rfl
theorem gl8m : (gk [a, b, c, d, e, f, g, h]).lookup ("reset_instruction" : Str) = none := by kernel_rfl
end
theorem rep_flat (n : Nat) : (List.replicate n [V.int 0]).flatten = vb (List.replicate n false) := by
  induction n with
  | zero => rfl
  | succ n ih => rw [List.replicate_succ, List.flatten_cons, ih]; rfl
theorem rep_flat1 (n : Nat) : (List.replicate n [V.int 1]).flatten = vb (List.replicate n true) := by
  induction n with
  | zero => rfl
  | succ n ih => rw [List.replicate_succ, List.flatten_cons, ih]; rfl
theorem step_nets (cs : List Kh264.Cell) : stepV (vi (cellsI cs)) (some 0) none (some 2) = cs.map fun x => V.int x.net := by
  refine stepV2 (r := 0) (by rw [vi_len, cellsI_len, List.length_map]) (.inl rfl) fun i => ?_
  unfold vi
  rw [List.getElem?_map, Nat.add_zero, cellsI_at0, List.getElem?_map]
  cases cs[i]? <;> rfl
theorem step_drives (cs : List Kh264.Cell) : stepV (vi (cellsI cs)) (some 1) none (some 2) = cs.map fun x => V.int (bi x.drives) := by
  refine stepV2 (r := 1) (by rw [vi_len, cellsI_len, List.length_map]) (.inr rfl) fun i => ?_
  unfold vi
  rw [List.getElem?_map, cellsI_at1, List.getElem?_map]
  cases cs[i]? <;> rfl
section
variable {P : Program} {w : World} {K : PySem.W.Frag} {mg : Str → Option Value} {base : Heap}
/-! ### Chip.__init__ -/
def spInit (C : Addr) : Sp := fun vs H Q _ => ∃ (p dx cl : Addr) (m : Kh264.Made), vs = [.ref p, .int m.id, .int m.ir, .int (bi m.hasId), .ref cl] ∧ H p = some (.ins C dx []) ∧ H cl = some (.lst (vi (cellsI m.cells))) ∧ m.ir ≤ 64 ∧ m.cells.length ≤ 64 ∧
  ∀ (H' : Hp) (ab : Addr), H ab = none → Keep [p] H H' → (∀ Z : List Addr, (∀ z ∈ Z, H z ≠ none ∨ z = ab) → ChipAt C Z H' p ab (Kh264.fresh m)) → Q .non H'
theorem sc_init : FnScope ["self", "ident", "width", "has_id", "cells"] ["self", "ident", "width", "has_id", "cells"] (defScope (sC 0)) := ⟨rfl, rfl, rfl, by decide +kernel, rfl, by decide +kernel, by decide +kernel⟩
theorem ok_init {f C g : Addr} (D : Def K "__init__" "Chip.__init__" (sC 0) f ["self", "ident", "width", "has_id", "cells"]) (T : Glb mg) (Y : ChipC K C) (m : Meth K C "reset_instruction" g) (O : Ok P w K mg base 1 g ["self"] (spRI C)) :
    Ok P w K mg base 2 f ["self", "ident", "width", "has_id", "cells"] (spInit C) := by
  obtain ⟨fd, F, b⟩ := D
  refine ⟨fd, F.ok sc_init (fun vs H Q E h => ?_) (fun cdv A outer s H vs Q E hr h => ?_), b⟩
  · obtain ⟨p, dx, cl, m, rfl, _⟩ := h
    rfl
  · obtain ⟨p, dx, cl, mm, rfl, hp, hcl, hu, hce, k⟩ := h
    refine ⟨_, pss_cons (ps_fld (pv 0) (pv 1) rfl) (pss_cons (ps_fld (pv 0) (pv 2) rfl) (pss_cons (ps_fld (pv 0) (pv 3) rfl)
      (pss_cons (ps_fld (pv 0) (pe_slice3 (pv 4) (po_some pe_int) po_none (po_some (pgi T.nCell))) rfl)
      (pss_cons (ps_fld (pv 0) (pe_slice3 (pv 4) (po_some pe_int) po_none (po_some (pgi T.nCell))) rfl)
      (pss_cons (ps_fld (pv 0) (pe_op op_rep (pe_lst (pa_cons pe_int pa_nil)) (pe_callB call_len_seq (by rfl) T.len PySem.boot_len (pa_cons (pe_fld (pv 0) rfl) pa_nil))) rfl)
      (pss_cons (ps_fld (pv 0) (pe_lst (pa_cons pe_int pa_nil)) rfl)
      (pss_cons (ps_fld (pv 0) (pe_op op_rep (pe_lst (pa_cons pe_int pa_nil)) (pv 2)) rfl)
      (pss_one (ps_fld (pv 0) (pmeth0 (pv 0) Y.cl m O hr pass0) rfl))))))))), ?_⟩
    have L0 : HasL H [(cl, vi (cellsI mm.cells))] := fun x hx => by rw [List.mem_singleton.mp hx]; exact hcl
    have i0 := putP (fs' := putF "ident" (.int mm.id) []) (Keep.refl [p] H) hp L0
    refine ⟨_, rfl, _, rfl, p, C, dx, [], rfl, hp, Y.cl, Y.nId, (by show 0 < 1000; decide), ?_⟩
    generalize upd H p (.ins C dx (putF "ident" (.int mm.id) [])) = H1 at i0 ⊢
    rw [gp1] at i0
    obtain ⟨k1, p1, l1⟩ := i0
    have i1 := putP (fs' := putF "width" (.int mm.ir) (gk [.int mm.id])) k1 p1 l1
    refine ⟨_, rfl, _, rfl, p, C, dx, _, rfl, p1, Y.cl, Y.nW, (by show 1 < 1000; decide), ?_⟩
    generalize upd H1 p (.ins C dx (putF "width" (.int mm.ir) (gk [.int mm.id]))) = H2 at i1 ⊢
    rw [gp2] at i1
    obtain ⟨k2, p2, l2⟩ := i1
    have i2 := putP (fs' := putF "has_id" (.int (bi mm.hasId)) (gk [.int mm.id, .int mm.ir])) k2 p2 l2
    refine ⟨_, rfl, _, rfl, p, C, dx, _, rfl, p2, Y.cl, Y.nH, (by show 2 < 1000; decide), ?_⟩
    generalize upd H2 p (.ins C dx (putF "has_id" (.int (bi mm.hasId)) (gk [.int mm.id, .int mm.ir]))) = H3 at i2 ⊢
    rw [gp3] at i2
    obtain ⟨k3, p3, l3⟩ := i2
    have hz : (stepV (vi (cellsI mm.cells)) (some 0) none (some 2)).length ≤ sizeLine := by rw [step_nets, List.length_map]; exact le_line (by omega)
    refine ⟨_, rfl, _, rfl, _, rfl, cl, _, rfl, SqL.of (l3 (cl, vi (cellsI mm.cells)) (by simp)), (by decide), hz, fun an han => ?_⟩
    rw [step_nets]
    have j3 := addNew (ys := mm.cells.map fun x => V.int x.net) k3 p3 l3 han
    have fan := keep_none k3 p3 han
    generalize upd H3 an (.lst (mm.cells.map fun x => V.int x.net)) = H3a at j3 ⊢
    obtain ⟨k3a, p3a, l3a⟩ := j3
    have i3 := putP (fs' := putF "cell_nets" (.ref an) (gk [.int mm.id, .int mm.ir, .int (bi mm.hasId)])) k3a p3a l3a
    refine ⟨_, rfl, p, C, dx, _, rfl, p3a, Y.cl, Y.nN, (by show 3 < 1000; decide), ?_⟩
    generalize upd H3a p (.ins C dx (putF "cell_nets" (.ref an) (gk [.int mm.id, .int mm.ir, .int (bi mm.hasId)]))) = H4 at i3 ⊢
    rw [gp4] at i3
    obtain ⟨k4, p4, l4⟩ := i3
    have hz : (stepV (vi (cellsI mm.cells)) (some 1) none (some 2)).length ≤ sizeLine := by rw [step_drives, List.length_map]; exact le_line (by omega)
    refine ⟨_, rfl, _, rfl, _, rfl, cl, _, rfl, SqL.of (l4 (cl, vi (cellsI mm.cells)) (by simp)), (by decide), hz, fun ad had => ?_⟩
    rw [step_drives]
    have j4 := addNew (ys := mm.cells.map fun x => V.int (bi x.drives)) k4 p4 l4 had
    have fad := keep_none k4 p4 had
    generalize upd H4 ad (.lst (mm.cells.map fun x => V.int (bi x.drives))) = H4a at j4 ⊢
    obtain ⟨k4a, p4a, l4a⟩ := j4
    have i4 := putP (fs' := putF "cell_drives" (.ref ad) (gk [.int mm.id, .int mm.ir, .int (bi mm.hasId), .ref an])) k4a p4a l4a
    refine ⟨_, rfl, p, C, dx, _, rfl, p4a, Y.cl, Y.nD, (by show 4 < 1000; decide), ?_⟩
    generalize upd H4a p (.ins C dx (putF "cell_drives" (.ref ad) (gk [.int mm.id, .int mm.ir, .int (bi mm.hasId), .ref an]))) = H5 at i4 ⊢
    rw [gp5] at i4
    obtain ⟨k5, p5, l5⟩ := i4
    -- the bits
    refine ⟨(by show 1 ≤ sizeLine; decide), fun t ht => ?_⟩
    have j5 := addNew (ys := [V.int 0]) k5 p5 l5 ht
    generalize upd H5 t (.lst [V.int 0]) = H5a at j5 ⊢
    obtain ⟨k5a, p5a, l5a⟩ := j5
    refine ⟨_, rfl, p, C, dx, _, _, rfl, p5a, Y.cl, Y.nN, gl5 .., an, _, rfl, .inl (SqL.of (l5a (an, mm.cells.map fun x => V.int x.net) (by simp))), t, _, _, rfl, rfl, l5a (t, [V.int 0]) (by simp), ?_, ?_, ?_, fun ab hab => ?_⟩
    · rw [List.length_map]; omega
    · rw [List.length_map]; omega
    · rw [List.length_map, Int.toNat_natCast]; exact le_line (by show 1 * _ ≤ _; omega)
    rw [List.length_map, Int.toNat_natCast, rep_flat]
    have j5a := addNew (ys := vb (List.replicate mm.cells.length false)) k5a p5a l5a hab
    have fab := keep_none k5a p5a hab
    have nan : an ≠ ab := ne_of_none (l5a (an, mm.cells.map fun x => V.int x.net) (by simp)) hab
    have nad : ad ≠ ab := ne_of_none (l5a (ad, mm.cells.map fun x => V.int (bi x.drives)) (by simp)) hab
    generalize upd H5a ab (.lst (vb (List.replicate mm.cells.length false))) = H5b at j5a ⊢
    obtain ⟨k5b, p5b, l5b⟩ := j5a
    have i5 := putP (fs' := putF "cell_bits" (.ref ab) (gk [.int mm.id, .int mm.ir, .int (bi mm.hasId), .ref an, .ref ad])) k5b p5b l5b
    refine ⟨_, rfl, p, C, dx, _, rfl, p5b, Y.cl, Y.nB, (by show 5 < 1000; decide), ?_⟩
    generalize upd H5b p (.ins C dx (putF "cell_bits" (.ref ab) (gk [.int mm.id, .int mm.ir, .int (bi mm.hasId), .ref an, .ref ad]))) = H6 at i5 ⊢
    rw [gp6] at i5
    obtain ⟨k6, p6, l6⟩ := i5
    -- data
    refine ⟨(by show 1 ≤ sizeLine; decide), fun adt hadt => ?_⟩
    have j6 := addNew (ys := [V.int 0]) k6 p6 l6 hadt
    have fadt := keep_none k6 p6 hadt
    have nadt : ab ≠ adt := ne_of_none (l6 (ab, vb (List.replicate mm.cells.length false)) (by simp)) hadt
    generalize upd H6 adt (.lst [V.int 0]) = H6a at j6 ⊢
    obtain ⟨k6a, p6a, l6a⟩ := j6
    have i6 := putP (fs' := putF "data" (.ref adt) (gk [.int mm.id, .int mm.ir, .int (bi mm.hasId), .ref an, .ref ad, .ref ab])) k6a p6a l6a
    refine ⟨_, rfl, p, C, dx, _, rfl, p6a, Y.cl, Y.nDt, (by show 6 < 1000; decide), ?_⟩
    generalize upd H6a p (.ins C dx (putF "data" (.ref adt) (gk [.int mm.id, .int mm.ir, .int (bi mm.hasId), .ref an, .ref ad, .ref ab]))) = H7 at i6 ⊢
    rw [gp7] at i6
    obtain ⟨k7, p7, l7⟩ := i6
    -- the new instruction
    refine ⟨(by show 1 ≤ sizeLine; decide), fun t2 ht2 => ?_⟩
    have j7 := addNew (ys := [V.int 0]) k7 p7 l7 ht2
    generalize upd H7 t2 (.lst [V.int 0]) = H7a at j7 ⊢
    obtain ⟨k7a, p7a, l7a⟩ := j7
    refine ⟨_, rfl, t2, _, _, rfl, rfl, l7a (t2, [V.int 0]) (by simp), by omega, by omega, ?_, fun ai hai => ?_⟩
    · rw [Int.toNat_natCast]; exact le_line (by show 1 * _ ≤ _; omega)
    rw [Int.toNat_natCast, rep_flat]
    have j7a := addNew (ys := vb (List.replicate mm.ir false)) k7a p7a l7a hai
    have fai := keep_none k7a p7a hai
    have nai : ab ≠ ai := ne_of_none (l7a (ab, vb (List.replicate mm.cells.length false)) (by simp)) hai
    generalize upd H7a ai (.lst (vb (List.replicate mm.ir false))) = H7b at j7a ⊢
    obtain ⟨k7b, p7b, l7b⟩ := j7a
    have i7 := putP (fs' := putF "new_instruction" (.ref ai) (gk [.int mm.id, .int mm.ir, .int (bi mm.hasId), .ref an, .ref ad, .ref ab, .ref adt])) k7b p7b l7b
    refine ⟨_, rfl, p, C, dx, _, rfl, p7b, Y.cl, Y.nNi, (by show 7 < 1000; decide), ?_⟩
    generalize upd H7b p (.ins C dx (putF "new_instruction" (.ref ai) (gk [.int mm.id, .int mm.ir, .int (bi mm.hasId), .ref an, .ref ad, .ref ab, .ref adt]))) = H8 at i7 ⊢
    rw [gp8] at i7
    obtain ⟨k8, p8, l8⟩ := i7
    -- the instruction
    refine ⟨_, rfl, p, dx, _, rfl, p8, gl8m .., p, dx, _, mm.hasId, mm.ir, rfl, p8, gl8h .., gl8w .., hu, ?_⟩
    have i8 := putP (fs' := putF "instruction" (.int (insR mm.hasId mm.ir : Nat)) (gk [.int mm.id, .int mm.ir, .int (bi mm.hasId), .ref an, .ref ad, .ref ab, .ref adt, .ref ai])) k8 p8 l8
    refine ⟨_, rfl, p, C, dx, _, rfl, p8, Y.cl, Y.nI, (by show 8 < 1000; decide), ?_⟩
    generalize upd H8 p (.ins C dx (putF "instruction" (.int (insR mm.hasId mm.ir : Nat)) (gk [.int mm.id, .int mm.ir, .int (bi mm.hasId), .ref an, .ref ad, .ref ab, .ref adt, .ref ai]))) = H9 at i8 ⊢
    rw [gp9] at i8
    obtain ⟨k9, p9, l9⟩ := i8
    refine k H9 ab fab k9 fun Z hZ => ?_
    have nz : ∀ {x : Addr}, H x = none → x ≠ ab → x ∉ Z := fun {x} hx hne m => by
      rcases hZ x m with q | q
      · exact q hx
      · exact hne q
    have r1 : H9 an = some (.lst (mm.cells.map fun (x : Kh264.Cell) => V.int x.net)) := l9 (an, mm.cells.map fun (x : Kh264.Cell) => V.int x.net) (by simp)
    have r2 : H9 ad = some (.lst (mm.cells.map fun (x : Kh264.Cell) => V.int (bi x.drives))) := l9 (ad, mm.cells.map fun (x : Kh264.Cell) => V.int (bi x.drives)) (by simp)
    exact ⟨⟨dx, an, ad, adt, ai, p9, r1, r2, l9 (adt, [V.int 0]) (by simp), l9 (ai, vb (List.replicate mm.ir false)) (by simp),
      nz fan nan, nz fad nad, nz fadt (Ne.symm nadt), nz fai (Ne.symm nai)⟩, l9 (ab, vb (List.replicate mm.cells.length false)) (by simp)⟩
end
end Cc

end

section
set_option Elab.async false
set_option linter.all false
set_option maxRecDepth 100000
set_option maxHeartbeats 4000000
namespace Cc
open PySem PySem.Spec PyProof.Rows L2
section
variable {P : Program} {w : World} {K : PySem.W.Frag} {mg : Str → Option Value} {base : Heap}
/-! ### nets_are_wrong -/
def spNW : Sp := fun vs H Q _ => ∃ (n : Nat) (aj ah : Addr) (j d : List Nat), vs = [.int n, .ref aj, .ref ah] ∧ H aj = some (.lst (vn j)) ∧ H ah = some (.lst (vn d)) ∧ (n ≤ 64 → j.length = n ∧ d.length = n) ∧ Q (.bl (!okNets n j d)) H
theorem sc_nw : FnScope ["nets", "joined", "held", "net"] ["nets", "joined", "held"] (defScope (top 29)) := ⟨rfl, rfl, rfl, by decide +kernel, rfl, by decide +kernel, by decide +kernel⟩
theorem getD_of {l : List Nat} {i x : Nat} (h : l[i]? = some x) : l.getD i 0 = x := by rw [List.getD_eq_getElem?_getD, h]; rfl
theorem ok_nw {f : Addr} (D : Def K "nets_are_wrong" "nets_are_wrong" (top 29) f ["nets", "joined", "held"]) (T : Glb mg) : Ok P w K mg base 1 f ["nets", "joined", "held"] spNW := by
  obtain ⟨fd, F, b⟩ := D
  refine ⟨fd, F.ok sc_nw (fun vs H Q E h => ?_) (fun cdv A outer s H vs Q E hr h => ?_), b⟩
  · obtain ⟨n, aj, ah, j, d, rfl, _⟩ := h
    rfl
  · obtain ⟨n, aj, ah, j, d, rfl, hj, hd, hl, k⟩ := h
    refine ⟨_, pss_cons (ps_if (pw_or (pt_cmpR op_lt (pv 0) pe_int (nomark _)) (pw_or1 (pt_cmpR op_gt (pv 0) (pgi T.mNets) (nomark _)))).pt (pss_one (ps_ret pe_bl)) pss_nil)
      (pss_cons (ps_for PassesOwn.never rfl (pi_range1 rfl T.range (pa_cons (pv 0) pa_nil)) (pg_name (i := 3) sc_nw.nd rfl (Or.inl rfl))
        (pss_cons (ps_if (pt_cmpR op_gt (pe_ix ix_list (pv 1) (pv 3) (fun _ _ => rfl)) (pv 3) (nomark _)) (pss_one (ps_ret pe_bl)) pss_nil)
        (pss_cons (ps_if (pt_cmpR op_ne (pe_ix ix_list (pv 1) (pe_ix ix_list (pv 1) (pv 3) (fun _ _ => rfl)) (fun _ _ => rfl)) (pe_ix ix_list (pv 1) (pv 3) (fun _ _ => rfl)) (nomark _)) (pss_one (ps_ret pe_bl)) pss_nil)
        (pss_one (ps_if (pt_cmpR op_gt (pe_ix ix_list (pv 2) (pv 3) (fun _ _ => rfl)) (pgi T.held1) (nomark _)) (pss_one (ps_ret pe_bl)) pss_nil)))))
      (pss_one (ps_ret pe_bl))), ?_⟩
    have bad : okNets n j d = false → Q (.bl true) H := fun e => by rw [e] at k; exact k
    have good : okNets n j d = true → Q (.bl false) H := fun e => by rw [e] at k; exact k
    refine ⟨_, rfl, _, _, rfl, rfl, _, rfl, ?_⟩
    refine iteD (fun h1 => ?_) (fun h1 => ?_)
    · refine bad ?_
      unfold okNets
      rw [decide_eq_false (by omega)]; rfl
    refine ⟨_, rfl, _, _, rfl, rfl, _, rfl, ?_⟩
    refine iteD (fun h2 => ?_) (fun h2 => ?_)
    · refine bad ?_
      unfold okNets
      rw [decide_eq_false (p := n ≤ 64) (by omega), Bool.false_and, Bool.and_false]
    have n1 : 1 ≤ n := by omega
    have n64 : n ≤ 64 := by omega
    obtain ⟨jl, dl⟩ := hl n64
    have eN : okNets n j d = (List.range n).all (okNet j d) := by
      unfold okNets
      rw [decide_eq_true n1, decide_eq_true n64, Bool.true_and, Bool.true_and]
    have badI : ∀ i, i < n → okNet j d i = false → Q (.bl true) H := fun i hi e => bad (by
      rw [eN]
      cases q : (List.range n).all (okNet j d) with
      | false => rfl
      | true =>
        have := List.all_eq_true.mp q i (List.mem_range.mpr hi)
        rw [e] at this; cases this)
    refine ⟨_, rfl, (n : Int), rfl, by omega, by omega, for_range (lo := 0) (n := n) (fun i σ H' => (∃ v : Option V, σ = [some (.int n), some (.ref aj), some (.ref ah), v]) ∧ H' = H ∧ ∀ t, t < i → okNet j d t = true)
      ⟨⟨none, rfl⟩, rfl, fun t ht => absurd ht (Nat.not_lt_zero t)⟩ ?_ ?_⟩
    · rintro i σ H' hi ⟨⟨v, rfl⟩, rfl, hok⟩
      have ej : j[i]? = some j[i] := List.getElem?_eq_getElem (by omega)
      have ed : d[i]? = some d[i] := List.getElem?_eq_getElem (by omega)
      generalize j[i] = ji at ej
      generalize d[i] = di at ed
      have gj := getD_of ej
      have gd := getD_of ed
      refine ⟨_, rfl, _, rfl, aj, _, _, _, rfl, rfl, SqL.of hj, at_of (j := i) (by omega) (vn_get ej), _, rfl, _, _, rfl, rfl, _, rfl, ?_⟩
      refine iteD (fun h3 => ?_) (fun h3 => ?_)
      · refine badI i hi ?_
        unfold okNet
        rw [gj, decide_eq_false (by omega)]; rfl
      have jle : ji ≤ i := by omega
      have ejj : j[ji]? = some j[ji] := List.getElem?_eq_getElem (by omega)
      generalize j[ji] = jj at ejj
      have gjj := getD_of ejj
      refine ⟨_, rfl, _, rfl, _, rfl, aj, _, _, _, rfl, rfl, SqL.of hj, at_of (j := i) (by omega) (vn_get ej), aj, _, _, _, rfl, rfl, SqL.of hj, atI_nat (vn_get ejj), _, rfl, _, rfl, aj, _, _, _, rfl, rfl, SqL.of hj, at_of (j := i) (by omega) (vn_get ej), rfl, _, rfl, ?_⟩
      refine iteNI (fun h4 => ?_) (fun h4 => ?_)
      · refine badI i hi ?_
        unfold okNet
        rw [gj, gjj]
        have : (jj == ji) = false := by
          rw [beq_eq_false_iff_ne]; intro e; exact h4 (by rw [e])
        rw [this, Bool.false_and, Bool.and_false]
      have ejj2 : jj = ji := by omega
      refine ⟨_, rfl, _, rfl, ah, _, _, _, rfl, rfl, SqL.of hd, at_of (j := i) (by omega) (vn_get ed), _, _, rfl, rfl, _, rfl, ?_⟩
      refine iteD (fun h5 => ?_) (fun h5 => ?_)
      · refine badI i hi ?_
        unfold okNet
        rw [gd, decide_eq_false (p := di ≤ 2) (by omega), Bool.and_false, Bool.and_false]
      refine ⟨⟨_, rfl⟩, rfl, fun t ht => ?_⟩
      by_cases e : t < i
      · exact hok t e
      · have e : t = i := by omega
        subst e
        unfold okNet
        rw [gj, gjj, gd, decide_eq_true jle, decide_eq_true (show di ≤ 2 by omega), ejj2]
        simp
    · rintro σ H' ⟨⟨v, rfl⟩, rfl, hok⟩
      refine good ?_
      rw [eN]
      exact List.all_eq_true.mpr fun t ht => hok t (List.mem_range.mp ht)
/-! ### chips_are_wrong -/
theorem rg4 {m : Nat} (h : m ≤ 9) : RgC 0 ((4 * m : Nat) : Int) 4 m := by
  refine ⟨by decide, by decide, ?_, ?_⟩
  · have a : ∀ m : _root_.Fin 10, Builtin.Range.small 0 ((4 * m.1 : Nat) : Int) 4 = true := by decide +kernel
    exact a ⟨m, by omega⟩
  · have a : ∀ m : _root_.Fin 10, Builtin.Range.rangeSize 0 ((4 * m.1 : Nat) : Int) 4 = (m.1 : Int) := by decide +kernel
    exact a ⟨m, by omega⟩
def spCW : Sp := fun vs H Q _ => ∃ (a : Addr) (ms : List Kh264.Made), vs = [.ref a] ∧ H a = some (.lst (vi (chipsI ms))) ∧ ms.length ≤ 9 ∧ Q (.bl (!okChips ms)) H
theorem sc_cw : FnScope ["chips", "many", "at", "width"] ["chips"] (defScope (top 30)) := ⟨rfl, rfl, rfl, by decide +kernel, rfl, by decide +kernel, by decide +kernel⟩
theorem ok_cw {f : Addr} (D : Def K "chips_are_wrong" "chips_are_wrong" (top 30) f ["chips"]) (T : Glb mg) : Ok P w K mg base 1 f ["chips"] spCW := by
  obtain ⟨fd, F, b⟩ := D
  refine ⟨fd, F.ok sc_cw (fun vs H Q E h => ?_) (fun cdv A outer s H vs Q E hr h => ?_), b⟩
  · obtain ⟨a, ms, rfl, _⟩ := h
    rfl
  · obtain ⟨a, ms, rfl, ha, h9, k⟩ := h
    refine ⟨_, pss_cons (ps_set (i := 1) sc_cw.nd rfl (Or.inl rfl) (pe_op op_fdiv (pe_callB call_len_seq (by rfl) T.len PySem.boot_len (pa_cons (pv 0) pa_nil)) (pgi T.nChip)))
      (pss_cons (ps_if (pw_or (pt_cmpR op_lt (pv 1) pe_int (nomark _)) (pw_or1 (pt_cmpR op_gt (pv 1) (pgi T.mChips) (nomark _)))).pt (pss_one (ps_ret pe_bl)) pss_nil)
      (pss_cons (ps_for PassesOwn.never rfl (pi_range3 rfl T.range (pa_cons pe_int (pa_cons (pe_callB call_len_seq (by rfl) T.len PySem.boot_len (pa_cons (pv 0) pa_nil)) (pa_cons (pgi T.nChip) pa_nil)))) (pg_name (i := 2) sc_cw.nd rfl (Or.inl rfl))
        (pss_cons (ps_set (i := 3) sc_cw.nd rfl (Or.inl rfl) (pe_ix ix_list (pv 0) (pe_op op_add (pv 2) pe_int) (fun _ _ => rfl)))
        (pss_cons (ps_if (pw_or (pt_cmpR op_lt (pv 3) (pgi T.lW) (nomark _)) (pw_or1 (pt_cmpR op_gt (pv 3) (pgi T.mW) (nomark _)))).pt (pss_one (ps_ret pe_bl)) pss_nil)
        (pss_one (ps_if (pt_cmpR op_gt (pe_ix ix_list (pv 0) (pe_op op_add (pv 2) pe_int) (fun _ _ => rfl)) (pgi T.mCells) (nomark _)) (pss_one (ps_ret pe_bl)) pss_nil)))))
      (pss_one (ps_ret pe_bl)))), ?_⟩
    have bad : okChips ms = false → Q (.bl true) H := fun e => by rw [e] at k; exact k
    have good : okChips ms = true → Q (.bl false) H := fun e => by rw [e] at k; exact k
    have el : ((vi (chipsI ms)).length : Int) = ((4 * ms.length : Nat) : Int) := by rw [vi_len, chipsI_len]
    refine ⟨_, rfl, a, _, rfl, .inl (SqL.of ha), _, _, rfl, rfl, ⟨by decide, by decide⟩, ?_⟩
    have ed : ((vi (chipsI ms)).length : Int) / 4 = (ms.length : Int) := by rw [el]; omega
    dsimp only
    rw [ed]
    refine ⟨_, rfl, _, _, rfl, rfl, _, rfl, ?_⟩
    refine iteD (fun h1 => ?_) (fun h1 => ?_)
    · refine bad ?_
      unfold okChips
      rw [decide_eq_false (by omega)]; rfl
    refine ⟨_, rfl, _, _, rfl, rfl, _, rfl, ?_⟩
    refine iteD (fun h2 => ?_) (fun h2 => ?_)
    · refine bad ?_
      unfold okChips
      rw [decide_eq_false (p := ms.length ≤ 8) (by omega), Bool.false_and, Bool.and_false]
    have n1 : 1 ≤ ms.length := by omega
    have n8 : ms.length ≤ 8 := by omega
    have eN : okChips ms = ms.all okOne := by
      unfold okChips
      rw [decide_eq_true n1, decide_eq_true n8, Bool.true_and, Bool.true_and]
    have badI : ∀ i c, ms[i]? = some c → okOne c = false → Q (.bl true) H := fun i c hi e => bad (by
      rw [eN]
      cases q : ms.all okOne with
      | false => rfl
      | true =>
        have := List.all_eq_true.mp q c (List.mem_of_getElem? hi)
        rw [e] at this; cases this)
    refine ⟨_, rfl, a, _, rfl, .inl (SqL.of ha), 0, ((4 * ms.length : Nat) : Int), 4, ms.length, ?_, rg4 h9, for_rangeC (lo := 0) (c := 4) (n := ms.length) (fun i σ H' => (∃ v2 v3 : Option V, σ = [some (.ref a), some (.int ms.length), v2, v3]) ∧ H' = H ∧ ∀ t c, t < i → ms[t]? = some c → okOne c = true)
      ⟨⟨none, none, rfl⟩, rfl, fun t c ht => absurd ht (Nat.not_lt_zero t)⟩ ?_ ?_⟩
    · rw [el]
    · rintro i σ H' hi ⟨⟨v2, v3, rfl⟩, rfl, hok⟩
      have ec : ms[i]? = some ms[i] := List.getElem?_eq_getElem hi
      generalize ms[i] = c at ec
      have e1 : (chipsI ms)[4 * i + 1]? = some (c.ir : Int) := chipsI_at 1 ec (by decide)
      have e3 : (chipsI ms)[4 * i + 3]? = some (c.cells.length : Int) := chipsI_at 3 ec (by decide)
      refine ⟨_, rfl, _, rfl, _, _, rfl, rfl, a, _, _, _, rfl, rfl, SqL.of ha, at_of (j := 4 * i + 1) (by omega) (vi_get e1), ?_⟩
      refine ⟨_, rfl, _, _, rfl, rfl, _, rfl, ?_⟩
      refine iteD (fun h3 => ?_) (fun h3 => ?_)
      · refine badI i c ec ?_
        unfold okOne
        rw [decide_eq_false (by omega)]; rfl
      refine ⟨_, rfl, _, _, rfl, rfl, _, rfl, ?_⟩
      refine iteD (fun h4 => ?_) (fun h4 => ?_)
      · refine badI i c ec ?_
        unfold okOne
        rw [decide_eq_false (p := c.ir ≤ 32) (by omega), Bool.false_and, Bool.and_false]
      refine ⟨_, rfl, _, rfl, _, _, rfl, rfl, a, _, _, _, rfl, rfl, SqL.of ha, at_of (j := 4 * i + 3) (by omega) (vi_get e3), _, _, rfl, rfl, _, rfl, ?_⟩
      refine iteD (fun h5 => ?_) (fun h5 => ?_)
      · refine badI i c ec ?_
        unfold okOne
        rw [decide_eq_false (p := c.cells.length ≤ 64) (by omega), Bool.and_false, Bool.and_false]
      refine ⟨⟨_, _, rfl⟩, rfl, fun t c' ht hc' => ?_⟩
      by_cases e : t < i
      · exact hok t c' e hc'
      · have e : t = i := by omega
        subst e
        rw [ec] at hc'
        cases hc'
        unfold okOne
        rw [decide_eq_true (show 2 ≤ c.ir by omega), decide_eq_true (show c.ir ≤ 32 by omega), decide_eq_true (show c.cells.length ≤ 64 by omega)]; rfl
    · rintro σ H' ⟨⟨v2, v3, rfl⟩, rfl, hok⟩
      refine good ?_
      rw [eN]
      refine List.all_eq_true.mpr fun c hc => ?_
      obtain ⟨t, ht⟩ := List.getElem?_of_mem hc
      exact hok t c (List.getElem?_eq_some_iff.mp ht).1 ht
/-! ### cells_are_wrong -/
def spLW : Sp := fun vs H Q _ => ∃ (a : Addr) (cs : List Kh264.Cell) (n : Nat), vs = [.ref a, .int n] ∧ H a = some (.lst (vi (cellsI cs))) ∧ cs.length ≤ 50000 ∧ ∀ H' : Hp, Same H H' → Q (.bl (!cs.all fun x => decide (x.net < n))) H'
theorem sc_lw : FnScope ["cells", "nets", "net"] ["cells", "nets"] (defScope (top 31)) := ⟨rfl, rfl, rfl, by decide +kernel, rfl, by decide +kernel, by decide +kernel⟩
theorem ok_lw {f : Addr} (D : Def K "cells_are_wrong" "cells_are_wrong" (top 31) f ["cells", "nets"]) (T : Glb mg) : Ok P w K mg base 1 f ["cells", "nets"] spLW := by
  obtain ⟨fd, F, b⟩ := D
  refine ⟨fd, F.ok sc_lw (fun vs H Q E h => ?_) (fun cdv A outer s H vs Q E hr h => ?_), b⟩
  · obtain ⟨a, cs, n, rfl, _⟩ := h
    rfl
  · obtain ⟨a, cs, n, rfl, ha, hl, k⟩ := h
    refine ⟨_, pss_cons (ps_for PassesOwn.never rfl (pi_list (pe_slice3 (pv 0) (po_some pe_int) po_none (po_some (pgi T.nCell)))) (pg_name (i := 2) sc_lw.nd rfl (Or.inl rfl))
      (pss_one (ps_if (pt_cmpR op_ge (pv 2) (pv 1) (nomark _)) (pss_one (ps_ret pe_bl)) pss_nil))) (pss_one (ps_ret pe_bl)), ?_⟩
    have hz : (stepV (vi (cellsI cs)) (some 0) none (some 2)).length ≤ sizeLine := by rw [step_nets, List.length_map]; exact le_line (by omega)
    refine ⟨_, rfl, _, rfl, _, rfl, a, _, rfl, SqL.of ha, (by decide), hz, fun q hq => ?_⟩
    rw [step_nets]
    have s1 : Same H (upd H q (.lst (cs.map fun x => V.int x.net))) := same_new (same_refl H) hq
    have g1 : (upd H q (.lst (cs.map fun x => V.int x.net))) q = some (.lst (cs.map fun x => V.int x.net)) := upd_same
    generalize upd H q (.lst (cs.map fun x => V.int x.net)) = H1 at s1 g1 ⊢
    refine ⟨q, rfl, ⟨_, SqL.of g1⟩, for_list (K := K) (a := q) (xs := cs.map fun x => V.int x.net) (fun i σ H' => (∃ v : Option V, σ = [some (.ref a), some (.int n), v]) ∧ H' = H1 ∧ ∀ t c, t < i → cs[t]? = some c → c.net < n)
      ⟨⟨none, rfl⟩, rfl, fun t c ht => absurd ht (Nat.not_lt_zero t)⟩ ?_ ?_ ?_⟩
    · rintro i σ H' _ ⟨_, rfl, _⟩
      exact SqL.of g1
    · rintro i x σ H' hx ⟨⟨v, rfl⟩, rfl, hok⟩
      rw [List.getElem?_map] at hx
      cases ec : cs[i]? with
      | none => rw [ec] at hx; cases hx
      | some c =>
        rw [ec] at hx
        have ex : x = V.int c.net := (Option.some.inj hx).symm
        subst ex
        refine ⟨_, rfl, _, rfl, _, _, rfl, rfl, _, rfl, ?_⟩
        refine iteD (fun h1 => ?_) (fun h1 => ?_)
        · have e : (cs.all fun x => decide (x.net < n)) = false := by
            cases q : cs.all fun x => decide (x.net < n) with
            | false => rfl
            | true =>
              have := List.all_eq_true.mp q c (List.mem_of_getElem? ec)
              have := of_decide_eq_true this
              omega
          have k1 := k H' s1
          rw [e] at k1
          exact k1
        · refine ⟨⟨_, rfl⟩, rfl, fun t c' ht hc' => ?_⟩
          by_cases e : t < i
          · exact hok t c' e hc'
          · have e : t = i := by omega
            subst e
            rw [ec] at hc'
            cases hc'
            omega
    · rintro σ H' ⟨⟨v, rfl⟩, rfl, hok⟩
      have e : (cs.all fun x => decide (x.net < n)) = true := List.all_eq_true.mpr fun c hc => by
        obtain ⟨t, ht⟩ := List.getElem?_of_mem hc
        exact decide_eq_true (hok t c (by rw [List.length_map]; exact (List.getElem?_eq_some_iff.mp ht).1) ht)
      have k1 := k H' s1
      rw [e] at k1
      exact k1
end
end Cc

end

section
set_option Elab.async false
set_option linter.all false
set_option maxRecDepth 100000
set_option maxHeartbeats 4000000
namespace Cc
open PySem PySem.Spec PyProof.Rows L2
/-! ### chips that are made one by one -/
structure ChipsZ (C : Addr) (Z : List Addr) (H : Hp) (cs abs : List Addr) (l : List Kh264.Chip) : Prop where
  nd : cs.Nodup
  ndb : abs.Nodup
  len : cs.length = l.length
  lenb : abs.length = l.length
  at_ : ∀ (j : Nat) (p ab : Addr) (c : Kh264.Chip), cs[j]? = some p → abs[j]? = some ab → l[j]? = some c → ChipAt C Z H p ab c
theorem ChipAt.mono {C : Addr} {Z Z' : List Addr} {H : Hp} {p ab : Addr} {c : Kh264.Chip} (k : ChipAt C Z H p ab c) (h : ∀ z ∈ Z', z ∈ Z ∨ H z = none) : ChipAt C Z' H p ab c := by
  obtain ⟨⟨dx, an, ad, adt, ai, h1, h2, h3, h4, h5, z1, z2, z3, z4⟩, h6⟩ := k
  have key : ∀ {x : Addr} {xs : List V}, H x = some (.lst xs) → x ∉ Z → x ∉ Z' := fun {x xs} hx hz m => by
    rcases h x m with q | q
    · exact hz q
    · rw [hx] at q; cases q
  exact ⟨⟨dx, an, ad, adt, ai, h1, h2, h3, h4, h5, key h2 z1, key h3 z2, key h4 z3, key h5 z4⟩, h6⟩
theorem nd_snoc' {l : List Addr} {k : Addr} (h : l.Nodup) (hk : k ∉ l) : (l ++ [k]).Nodup := by
  rw [List.nodup_append]
  exact ⟨h, by simp, fun a ha b hb => by simp at hb; subst hb; exact fun e => hk (e ▸ ha)⟩
section
variable {C : Addr} {Z : List Addr} {H H' : Hp} {cs abs : List Addr} {l : List Kh264.Chip}
theorem ChipsZ.ref (k : ChipsZ C Z H cs abs l) {j : Nat} (h : j < cs.length) : ∃ p ab c, cs[j]? = some p ∧ abs[j]? = some ab ∧ l[j]? = some c ∧ ChipAt C Z H p ab c := by
  have hj : j < l.length := by rw [← k.len]; exact h
  have h3 : l[j]? = some l[j] := List.getElem?_eq_getElem hj
  have h1 : cs[j]? = some cs[j] := List.getElem?_eq_getElem h
  have hj2 : j < abs.length := by rw [k.lenb]; exact hj
  have h2 : abs[j]? = some abs[j] := List.getElem?_eq_getElem hj2
  exact ⟨_, _, _, h1, h2, h3, k.at_ j _ _ _ h1 h2 h3⟩
theorem ChipsZ.isB (k : ChipsZ C Z H cs abs l) {z : Addr} (h : z ∈ abs) : ∃ xs, H z = some (.lst xs) := by
  obtain ⟨j, hj⟩ := List.getElem?_of_mem h
  have hl : j < cs.length := by rw [k.len, ← k.lenb]; exact (List.getElem?_eq_some_iff.mp hj).1
  obtain ⟨p, ab, c, _, h2, _, h4⟩ := k.ref hl
  rw [hj] at h2
  cases h2
  exact ⟨_, h4.bits⟩
theorem ChipsZ.isC (k : ChipsZ C Z H cs abs l) {z : Addr} (h : z ∈ cs) : ∃ dx fs, H z = some (.ins C dx fs) := by
  obtain ⟨j, hj⟩ := List.getElem?_of_mem h
  obtain ⟨p, ab, c, h1, _, _, h4⟩ := k.ref (List.getElem?_eq_some_iff.mp hj).1
  rw [hj] at h1
  cases h1
  obtain ⟨dx, an, ad, adt, ai, h, _⟩ := h4.ex
  exact ⟨dx, _, h⟩
/-- one more chip at x, its bits at ab; then the list at q is written -/
theorem ChipsZ.grow {q x ab : Addr} {c : Kh264.Chip} {o : HO} {Hm : Hp} (k : ChipsZ C (q :: abs) H cs abs l) (hx : H x = none) (hab : Hm ab = none) (sHm : Same H Hm) (s : Same H H') (hq : ∃ ys, H q = some (.lst ys)) (nq : q ∉ abs) (hxi : ∃ dx fs, H' x = some (.ins C dx fs))
    (hA : ∀ Z : List Addr, (∀ z ∈ Z, Hm z ≠ none ∨ z = ab) → ChipAt C Z H' x ab c) : ChipsZ C (q :: (abs ++ [ab])) (upd H' q o) (cs ++ [x]) (abs ++ [ab]) (l ++ [c]) ∧ q ∉ abs ++ [ab] := by
  obtain ⟨ys, hq⟩ := hq
  have nabq : q ≠ ab := ne_of_none (sHm _ _ hq) hab
  have nqq : q ∉ abs ++ [ab] := fun m => by
    rcases List.mem_append.mp m with z | z
    · exact nq z
    · exact nabq (List.mem_singleton.mp z)
  have habH : H ab = none := sHm.free hab
  have kq : Keep [q] H' (upd H' q o) := (Keep.refl _ H').upd (by simp)
  have up : ∀ {p' ab' : Addr} {c' : Kh264.Chip}, ChipAt C (q :: (abs ++ [ab])) H' p' ab' c' → ab' ≠ q → ChipAt C (q :: (abs ++ [ab])) (upd H' q o) p' ab' c' := fun {p' ab' c'} z nb => by
    obtain ⟨dx, _, _, _, _, z1, _⟩ := z.ex
    refine z.keep kq (fun m => ne_lst_ins (s _ _ hq) z1 (List.mem_singleton.mp m).symm) (fun m => nb (List.mem_singleton.mp m)) fun m hm => .inl ?_
    rw [List.mem_singleton.mp hm]; simp
  refine ⟨⟨nd_snoc' k.nd fun m => ?_, nd_snoc' k.ndb fun m => ?_, by simp [k.len], by simp [k.lenb], fun j p' ab' c' h1 h2 h3 => ?_⟩, nqq⟩
  · obtain ⟨dx, fs, z⟩ := k.isC m
    rw [hx] at z; cases z
  · obtain ⟨xs, z⟩ := k.isB m
    rw [habH] at z; cases z
  · by_cases hj : j < l.length
    · rw [List.getElem?_append_left (by rw [k.len]; exact hj)] at h1
      rw [List.getElem?_append_left (by rw [k.lenb]; exact hj)] at h2
      rw [List.getElem?_append_left hj] at h3
      have z := k.at_ j p' ab' c' h1 h2 h3
      have z2 : ChipAt C (q :: (abs ++ [ab])) H p' ab' c' := z.mono fun y hy => by
        rcases List.mem_cons.mp hy with e | e
        · exact .inl (by simp [e])
        · rcases List.mem_append.mp e with e | e
          · exact .inl (by simp [e])
          · rw [List.mem_singleton.mp e]; exact .inr habH
      exact up (z2.same s) fun e => nq (e ▸ List.mem_of_getElem? h2)
    · have hl3 : j < (l ++ [c]).length := (List.getElem?_eq_some_iff.mp h3).1
      have ej : j = l.length := by simp at hl3; omega
      subst ej
      rw [← k.len, List.getElem?_append_right (Nat.le_refl _), Nat.sub_self] at h1
      rw [← k.lenb, List.getElem?_append_right (Nat.le_refl _), Nat.sub_self] at h2
      rw [List.getElem?_append_right (Nat.le_refl _), Nat.sub_self] at h3
      have e1 : x = p' := Option.some.inj h1
      have e2 : ab = ab' := Option.some.inj h2
      have e3 : c = c' := Option.some.inj h3
      subst e1 e2 e3
      refine up (hA _ fun z hz => ?_) (Ne.symm nabq)
      rcases List.mem_cons.mp hz with e | e
      · rw [e]; exact .inl (some_ne (sHm _ _ hq))
      · rcases List.mem_append.mp e with e | e
        · obtain ⟨xs, y⟩ := k.isB e
          exact .inl (some_ne (sHm _ _ y))
        · exact .inr (List.mem_singleton.mp e)
end
section
variable {P : Program} {w : World} {K : PySem.W.Frag} {mg : Str → Option Value} {base : Heap}
/-! ### made_chips -/
def spMk (C : Addr) : Sp := fun vs H Q _ => ∃ (a1 a2 : Addr) (ms : List Kh264.Made), vs = [.ref a1, .ref a2] ∧ H a1 = some (.lst (vi (chipsI ms))) ∧ H a2 = some (.lst (vi (allI ms))) ∧ ms.length ≤ 8 ∧ (∀ m ∈ ms, m.ir ≤ 32 ∧ m.cells.length ≤ 64) ∧
  ∀ (H' : Hp) (q : Addr) (cs abs : List Addr), H q = none → Same H H' → H' q = some (.lst (cs.map V.ref)) → ChipsAt C H' cs abs (ms.map Kh264.fresh) → (∀ x ∈ cs, H x = none) → (∀ x ∈ abs, H x = none) → q ∉ abs → Q (.ref q) H'
theorem sc_mk : FnScope ["chips", "cells", "made", "first", "at", "behind"] ["chips", "cells"] (defScope (top 32)) := ⟨rfl, rfl, rfl, by decide +kernel, rfl, by decide +kernel, by decide +kernel⟩
theorem cut_all {ms : List Kh264.Made} {i : Nat} {c : Kh264.Made} (h : ms[i]? = some c) : cutV (vi (allI ms)) (some ((offI ms i : Nat) : Int)) (some ((offI ms i + 2 * c.cells.length : Nat) : Int)) = vi (cellsI c.cells) := by
  obtain ⟨h1, h2⟩ := allI_cut h
  unfold cutV
  rw [HT.sIx_nat, HT.sIx_nat, vi_len, Nat.min_eq_left h2, Nat.min_eq_left (show offI ms i ≤ (allI ms).length by omega), Nat.add_sub_cancel_left]
  unfold vi
  rw [← List.map_drop, ← List.map_take, h1]
theorem ok_mk {f C g : Addr} (D : Def K "made_chips" "made_chips" (top 32) f ["chips", "cells"]) (T : Glb mg) (M : Mk K C g) (mC : mg "Chip" = some (.ref C)) (O : Ok P w K mg base 2 g ["self", "ident", "width", "has_id", "cells"] (spInit C)) :
    Ok P w K mg base 4 f ["chips", "cells"] (spMk C) := by
  obtain ⟨fd, F, b⟩ := D
  refine ⟨fd, F.ok sc_mk (fun vs H Q E h => ?_) (fun cdv A outer s H vs Q E hr h => ?_), b⟩
  · obtain ⟨a1, a2, ms, rfl, _⟩ := h
    rfl
  · obtain ⟨a1, a2, ms, rfl, h1, h2, h8, hm, k⟩ := h
    refine ⟨_, pss_cons (ps_set (i := 2) sc_mk.nd rfl (Or.inl rfl) (pe_lst pa_nil)) (pss_cons (ps_set (i := 3) sc_mk.nd rfl (Or.inl rfl) pe_int)
      (pss_cons (ps_for PassesOwn.never rfl (pi_range3 rfl T.range (pa_cons pe_int (pa_cons (pe_callB call_len_seq (by rfl) T.len PySem.boot_len (pa_cons (pv 0) pa_nil)) (pa_cons (pgi T.nChip) pa_nil)))) (pg_name (i := 4) sc_mk.nd rfl (Or.inl rfl))
        (pss_cons (ps_set (i := 5) sc_mk.nd rfl (Or.inl rfl) (pe_op op_add (pv 3) (pe_op op_mul (pgi T.nCell) (pe_ix ix_list (pv 0) (pe_op op_add (pv 4) pe_int) (fun _ _ => rfl)))))
        (pss_cons (ps_expr (pe_bm PySem.F.plainAttrs_list PySem.F.slot_list_append PySem.F.type_list_append mt_append (pv 2) (pa_cons (pmake M O hr mC pass0
          (pa_cons (pe_ix ix_list (pv 0) (pv 4) (fun _ _ => rfl)) (pa_cons (pe_ix ix_list (pv 0) (pe_op op_add (pv 4) pe_int) (fun _ _ => rfl)) (pa_cons (pe_ix ix_list (pv 0) (pe_op op_add (pv 4) pe_int) (fun _ _ => rfl))
            (pa_cons (pe_slice sl_list (pv 1) (po_some (pv 3)) (po_some (pv 5))) pa_nil))))) pa_nil)))
        (pss_one (ps_set (i := 3) sc_mk.nd rfl (Or.inl rfl) (pv 5))))))
      (pss_one (ps_ret (pv 2))))), ?_⟩
    refine ⟨Nat.zero_le _, fun q hq => ?_⟩
    have s0 : Same H (upd H q (.lst [])) := same_new (same_refl H) hq
    have el : ((vi (chipsI ms)).length : Int) = ((4 * ms.length : Nat) : Int) := by rw [vi_len, chipsI_len]
    refine ⟨_, rfl, a1, _, rfl, .inl (SqL.of (s0 _ _ h1)), 0, ((4 * ms.length : Nat) : Int), 4, ms.length, ?_, rg4 (by omega), for_rangeC (lo := 0) (c := 4) (n := ms.length) (fun i σ H' => i ≤ ms.length ∧ ∃ (v4 v5 : Option V) (cs abs : List Addr),
        σ = [some (.ref a1), some (.ref a2), some (.ref q), some (.int (offI ms i : Nat)), v4, v5] ∧ Same H H' ∧ H' q = some (.lst (cs.map V.ref)) ∧ ChipsZ C (q :: abs) H' cs abs ((ms.take i).map Kh264.fresh) ∧ (∀ x ∈ cs, H x = none) ∧ (∀ x ∈ abs, H x = none) ∧ q ∉ abs)
      ⟨Nat.zero_le _, none, none, [], [], rfl, s0, upd_same, ⟨List.nodup_nil, List.nodup_nil, rfl, rfl, fun j p ab c e => by simp at e⟩, fun x e => by simp at e, fun x e => by simp at e, by simp⟩ ?_ ?_⟩
    · rw [el]
    · rintro i σ H' hi ⟨_, v4, v5, cs, abs, rfl, sm, hq', kc, f1, f2, nq⟩
      have ec : ms[i]? = some ms[i] := List.getElem?_eq_getElem hi
      generalize ms[i] = c at ec
      have hmc := hm c (List.mem_of_getElem? ec)
      have e0 : (chipsI ms)[4 * i]? = some (c.id : Int) := chipsI_at 0 ec (by decide)
      have e1 : (chipsI ms)[4 * i + 1]? = some (c.ir : Int) := chipsI_at 1 ec (by decide)
      have e2 : (chipsI ms)[4 * i + 2]? = some (bi c.hasId) := chipsI_at 2 ec (by decide)
      have e3 : (chipsI ms)[4 * i + 3]? = some (c.cells.length : Int) := chipsI_at 3 ec (by decide)
      have g1 := sm _ _ h1
      have g2 := sm _ _ h2
      -- behind
      refine ⟨_, rfl, _, rfl, _, rfl, _, _, rfl, rfl, a1, _, _, _, rfl, rfl, SqL.of g1, at_of (j := 4 * i + 3) (by omega) (vi_get e3), _, _, rfl, rfl, .inl ⟨by decide, by decide⟩, _, _, rfl, rfl, ?_⟩
      have eb : ((offI ms i : Nat) : Int) + 2 * (c.cells.length : Int) = ((offI ms i + 2 * c.cells.length : Nat) : Int) := by omega
      dsimp only
      rw [eb]
      -- made.append(Chip(..))
      refine ⟨_, rfl, .inl ⟨rfl, _, SqL.of hq'⟩, ?_⟩
      refine ⟨_, rfl, _, rfl, a1, _, _, _, rfl, rfl, SqL.of g1, at_of (j := 4 * i) (by omega) (vi_get e0), ?_⟩
      refine ⟨_, rfl, _, rfl, _, _, rfl, rfl, a1, _, _, _, rfl, rfl, SqL.of g1, at_of (j := 4 * i + 1) (by omega) (vi_get e1), ?_⟩
      refine ⟨_, rfl, _, rfl, _, _, rfl, rfl, a1, _, _, _, rfl, rfl, SqL.of g1, at_of (j := 4 * i + 2) (by omega) (vi_get e2), ?_⟩
      refine ⟨_, rfl, _, rfl, _, rfl, _, rfl, _, rfl, a2, _, rfl, SqL.of g2, fun cl hcl => ?_⟩
      rw [cut_all ec]
      have s1 : Same H' (upd H' cl (.lst (vi (cellsI c.cells)))) := same_new (same_refl H') hcl
      have c1 : (upd H' cl (.lst (vi (cellsI c.cells)))) cl = some (.lst (vi (cellsI c.cells))) := upd_same
      generalize upd H' cl (.lst (vi (cellsI c.cells))) = H1 at s1 c1 ⊢
      intro x dx hx hdx hne
      have sm2 : Same H1 (upd (upd H1 dx (.own x)) x (.ins C dx [])) := same_new (same_new (same_refl H1) hdx) hx
      have ix : (upd (upd H1 dx (.own x)) x (.ins C dx [])) x = some (.ins C dx []) := upd_same
      generalize upd (upd H1 dx (.own x)) x (.ins C dx []) = Hm at sm2 ix ⊢
      refine ⟨x, dx, cl, c, rfl, ix, sm2 _ _ c1, by omega, hmc.2, fun H2 ab hab kp hA => ⟨rfl, ?_⟩⟩
      have s12 : Same H1 H2 := fun b o e => kp b o (sm2 b o e) fun m => by rw [List.mem_singleton.mp m, hx] at e; cases e
      have sH2 : Same H' H2 := s1.trans s12
      have q2 := sH2 _ _ hq'
      refine ⟨q, _, _, rfl, rfl, q2, ?_, ?_⟩
      · rw [List.length_map, kc.len, List.length_map, List.length_take]
        exact lt_line (by omega)
      have hxi : ∃ dx fs, H2 x = some (.ins C dx fs) := by
        obtain ⟨dx, _, _, _, _, z, _⟩ := (hA [] fun z hz => by simp at hz).ex
        exact ⟨dx, _, z⟩
      have gr := ChipsZ.grow (o := .lst (cs.map V.ref ++ [V.ref x])) (x := x) (ab := ab) (c := Kh264.fresh c) (Hm := Hm) kc (s1.free hx) hab (s1.trans sm2) sH2 ⟨_, hq'⟩ nq hxi hA
      refine ⟨_, rfl, hi, some (.int (0 + (i : Int) * 4)), some (.int ((offI ms i + 2 * c.cells.length : Nat) : Int)), cs ++ [x], abs ++ [ab], ?_, ?_, ?_, ?_, ?_, ?_, gr.2⟩
      · rw [offI_snoc ec]; rfl
      · exact same_new (sm.trans sH2) hq
      · rw [upd_same, List.map_append]; rfl
      · rw [map_snoc _ ec]; exact gr.1
      · intro y hy
        rcases List.mem_append.mp hy with e | e
        · exact f1 y e
        · rw [List.mem_singleton.mp e]; exact sm.free (s1.free hx)
      · intro y hy
        rcases List.mem_append.mp hy with e | e
        · exact f2 y e
        · rw [List.mem_singleton.mp e]; exact sm.free (s1.free (sm2.free hab))
    · rintro σ H' ⟨_, v4, v5, cs, abs, rfl, sm, hq', kc, f1, f2, nq⟩
      refine ⟨_, rfl, ?_⟩
      rw [List.take_length] at kc
      refine k H' q cs abs hq sm hq' ⟨kc.nd, kc.ndb, kc.len, kc.lenb, fun j p ab c e1 e2 e3 => (kc.at_ j p ab c e1 e2 e3).mono fun z hz => .inl (by simp [hz])⟩ f1 f2 nq
end
end Cc

end

section
set_option Elab.async false
set_option linter.all false
set_option maxRecDepth 100000
set_option maxHeartbeats 4000000
namespace Cc
open PySem PySem.Spec PyProof.Rows L2
structure BoardC (K : PySem.W.Frag) (B : Addr) : Prop where
  cl : Cls K B
  nS : NoAttr K B "state"
  nC : NoAttr K B "chips"
  nJ : NoAttr K B "joined"
  nH : NoAttr K B "held"
/-- the table of the next states -/
structure Tab (K : PySem.W.Frag) (nx : Addr) : Prop where
  ex : ∃ as : List Addr, as.length = 16 ∧ (∀ H, SqT K H nx (as.map V.ref)) ∧ ∀ (i a b : Nat), nextTab[i]? = some (a, b) → ∃ p, as[i]? = some p ∧ ∀ H, SqT K H p [V.int a, V.int b]
section
variable (st : Nat) (ac aj ah x : Addr)
theorem bk_s : (bfl st ac aj ah).lookup ("state" : Str) = some (.int st) := by kernel_rfl
theorem bk_c : (bfl st ac aj ah).lookup ("chips" : Str) = some (.ref ac) := by kernel_rfl
theorem bk_j : (bfl st ac aj ah).lookup ("joined" : Str) = some (.ref aj) := by kernel_rfl
theorem bk_h : (bfl st ac aj ah).lookup ("held" : Str) = some (.ref ah) := by kernel_rfl
theorem bk_m1 : (bfl st ac aj ah).lookup ("start" : Str) = none := by kernel_rfl
theorem bk_m2 : (bfl st ac aj ah).lookup ("clock" : Str) = none := by kernel_rfl
theorem bk_m3 : (bfl st ac aj ah).lookup ("act_on_each_chip" : Str) = none := by kernel_rfl
theorem bk_m4 : (bfl st ac aj ah).lookup ("take_data" : Str) = none := by kernel_rfl
theorem bk_m5 : (bfl st ac aj ah).lookup ("shift_data" : Str) = none := by kernel_rfl
theorem bk_m6 : (bfl st ac aj ah).lookup ("shift_instructions" : Str) = none := by kernel_rfl
theorem bk_m7 : (bfl st ac aj ah).lookup ("levels" : Str) = none := by kernel_rfl
theorem bk_m8 : (bfl st ac aj ah).lookup ("net" : Str) = none := by kernel_rfl
theorem bp_s (n : Nat) : putF "state" (.int n) (bfl st ac aj ah) = bfl n ac aj ah := by kernel_rfl
theorem bp_c : putF "chips" (.ref x) (bfl st ac aj ah) = bfl st x aj ah := by kernel_rfl
theorem bp_j : putF "joined" (.ref x) (bfl st ac aj ah) = bfl st ac x ah := by kernel_rfl
theorem bp_h : putF "held" (.ref x) (bfl st ac aj ah) = bfl st ac aj x := by kernel_rfl
theorem bi_1 (s : V) : putF "state" s [] = [(("state" : Str), s)] := by kernel_rfl
theorem bi_2 (s c : V) : putF "chips" c [(("state" : Str), s)] = [(("state" : Str), s), ("chips", c)] := by kernel_rfl
theorem bi_3 (s c j : V) : putF "joined" j [(("state" : Str), s), ("chips", c)] = [(("state" : Str), s), ("chips", c), ("joined", j)] := by kernel_rfl
theorem bi_4 (s c j h : V) : putF "held" h [(("state" : Str), s), ("chips", c), ("joined", j)] = [(("state" : Str), s), ("chips", c), ("joined", j), ("held", h)] := by kernel_rfl
end
section
variable {B C : Addr} {H H' : Hp} {bp : Addr} {cs abs : List Addr} {l l' : List Kh264.Chip} {b : Kh264.Board}
/-- an instance elsewhere is written -/
theorem ChipsAt.keepI {d : Addr} {fs : List (Str × V)} (k : ChipsAt C H cs abs l) (hb : H bp = some (.ins B d fs)) (hn : bp ∉ cs) (kp : Keep [bp] H H') : ChipsAt C H' cs abs l := by
  refine ⟨k.nd, k.ndb, k.len, k.lenb, fun j p ab c h1 h2 h3 => ?_⟩
  have z := k.at_ j p ab c h1 h2 h3
  refine z.keep kp (fun m => hn ?_) (fun m => ne_lst_ins z.bits hb (List.mem_singleton.mp m)) fun m hm => .inr ⟨B, d, fs, ?_⟩
  · rw [← List.mem_singleton.mp m]; exact List.mem_of_getElem? h1
  · rw [List.mem_singleton.mp hm]; exact hb
theorem BrdAt.nmem (k : BrdAt B C H bp cs abs b) : bp ∉ cs ++ abs := fun m => by
  obtain ⟨d, ac, aj, ah, h, _⟩ := k.ex
  rcases List.mem_append.mp m with z | z
  · obtain ⟨dx, c, an, ad, ab, adt, ai, q⟩ := k.chips.isC z
    rw [h] at q
    injection q with q
    injection q with _ _ q
    exact cf_ne_bfl _ _ _ _ _ _ _ _ _ _ q.symm
  · obtain ⟨xs, q⟩ := k.chips.isB z
    rw [h] at q; cases q
theorem BrdAt.nlist {xs : List V} {a : Addr} (k : BrdAt B C H bp cs abs b) (h : H a = some (.lst xs)) (hn : a ∉ abs) : a ∉ cs ++ abs := fun m => by
  rcases List.mem_append.mp m with z | z
  · obtain ⟨dx, c, an, ad, ab, adt, ai, q⟩ := k.chips.isC z
    exact ne_lst_ins h q rfl
  · exact hn z
/-- the chips have changed, nothing else -/
theorem BrdAt.chg (k : BrdAt B C H bp cs abs b) (kp : Keep (cs ++ abs) H H') (kc : ChipsAt C H' cs abs l') : BrdAt B C H' bp cs abs { b with chips := l' } := by
  have nb := k.nmem
  have nl := fun {a xs} => k.nlist (a := a) (xs := xs)
  obtain ⟨⟨d, ac, aj, ah, h1, h2, h3, h4, z1, z2, z3⟩, _⟩ := k
  exact ⟨⟨d, ac, aj, ah, kp _ _ h1 nb, kp _ _ h2 (nl h2 z1), kp _ _ h3 (nl h3 z2), kp _ _ h4 (nl h4 z3), z1, z2, z3⟩, kc⟩
theorem BrdAt.same (k : BrdAt B C H bp cs abs b) (s : Same H H') : BrdAt B C H' bp cs abs b := by
  obtain ⟨⟨d, ac, aj, ah, h1, h2, h3, h4, z⟩, kc⟩ := k
  exact ⟨⟨d, ac, aj, ah, s _ _ h1, s _ _ h2, s _ _ h3, s _ _ h4, z⟩, kc.same s⟩
theorem ChipsAt.pair {j : Nat} {p ab : Addr} (h1 : cs[j]? = some p) (h2 : abs[j]? = some ab) (kp : Keep [p, ab] H H') : Keep (cs ++ abs) H H' := kp.mono fun z hz => by
  rcases List.mem_cons.mp hz with e | e
  · rw [e]; exact List.mem_append_left _ (List.mem_of_getElem? h1)
  · rw [List.mem_singleton.mp e]; exact List.mem_append_right _ (List.mem_of_getElem? h2)
theorem ChipsAt.nz (k : ChipsAt C H cs abs l) : ∀ z ∈ abs, H z ≠ none := fun z hz => by
  obtain ⟨xs, q⟩ := k.isB hz
  exact some_ne q
end
section
variable {P : Program} {w : World} {K : PySem.W.Frag} {mg : Str → Option Value} {base : Heap}
/-! ### Board.__init__ -/
def spBI (B : Addr) : Sp := fun vs H Q _ => ∃ (p d : Addr), vs = [.ref p] ∧ H p = some (.ins B d []) ∧ ∀ H' : Hp, (∃ ac aj ah, H' p = some (.ins B d (bfl 0 ac aj ah))) → Keep [p] H H' → Q .non H'
theorem sc_bi : FnScope ["self"] ["self"] (defScope (sB 0)) := ⟨rfl, rfl, rfl, by decide +kernel, rfl, by decide +kernel, by decide +kernel⟩
theorem ok_bi {f B : Addr} (D : Def K "__init__" "Board.__init__" (sB 0) f ["self"]) (T : Glb mg) (Y : BoardC K B) : Ok P w K mg base 1 f ["self"] (spBI B) := by
  obtain ⟨fd, F, b⟩ := D
  refine ⟨fd, F.ok sc_bi (fun vs H Q E h => ?_) (fun cdv A outer s H vs Q E hr h => ?_), b⟩
  · obtain ⟨p, d, rfl, _⟩ := h
    rfl
  · obtain ⟨p, d, rfl, hp, k⟩ := h
    refine ⟨_, pss_cons (ps_fld (pv 0) (pgi T.reset) rfl) (pss_cons (ps_fld (pv 0) (pe_lst pa_nil) rfl) (pss_cons (ps_fld (pv 0) (pe_lst pa_nil) rfl) (pss_one (ps_fld (pv 0) (pe_lst pa_nil) rfl)))), ?_⟩
    have L0 : HasL H [] := fun x hx => by simp at hx
    have i0 := putP (fs' := putF "state" (.int 0) []) (Keep.refl [p] H) hp L0
    refine ⟨_, rfl, p, B, d, [], rfl, hp, Y.cl, Y.nS, (by show 0 < 1000; decide), ?_⟩
    generalize upd H p (.ins B d (putF "state" (.int 0) [])) = H1 at i0 ⊢
    rw [bi_1] at i0
    obtain ⟨k1, p1, l1⟩ := i0
    refine ⟨Nat.zero_le _, fun ac hac => ?_⟩
    have j1 := addNew (ys := []) k1 p1 l1 hac
    generalize upd H1 ac (.lst []) = H1a at j1 ⊢
    obtain ⟨k1a, p1a, l1a⟩ := j1
    have i1 := putP (fs' := putF "chips" (.ref ac) [(("state" : Str), .int 0)]) k1a p1a l1a
    refine ⟨_, rfl, p, B, d, _, rfl, p1a, Y.cl, Y.nC, (by show 1 < 1000; decide), ?_⟩
    generalize upd H1a p (.ins B d (putF "chips" (.ref ac) [(("state" : Str), .int 0)])) = H2 at i1 ⊢
    rw [bi_2] at i1
    obtain ⟨k2, p2, l2⟩ := i1
    refine ⟨Nat.zero_le _, fun aj haj => ?_⟩
    have j2 := addNew (ys := []) k2 p2 l2 haj
    generalize upd H2 aj (.lst []) = H2a at j2 ⊢
    obtain ⟨k2a, p2a, l2a⟩ := j2
    have i2 := putP (fs' := putF "joined" (.ref aj) [(("state" : Str), .int 0), ("chips", .ref ac)]) k2a p2a l2a
    refine ⟨_, rfl, p, B, d, _, rfl, p2a, Y.cl, Y.nJ, (by show 2 < 1000; decide), ?_⟩
    generalize upd H2a p (.ins B d (putF "joined" (.ref aj) [(("state" : Str), .int 0), ("chips", .ref ac)])) = H3 at i2 ⊢
    rw [bi_3] at i2
    obtain ⟨k3, p3, l3⟩ := i2
    refine ⟨Nat.zero_le _, fun ah hah => ?_⟩
    have j3 := addNew (ys := []) k3 p3 l3 hah
    generalize upd H3 ah (.lst []) = H3a at j3 ⊢
    obtain ⟨k3a, p3a, l3a⟩ := j3
    have i3 := putP (fs' := putF "held" (.ref ah) [(("state" : Str), .int 0), ("chips", .ref ac), ("joined", .ref aj)]) k3a p3a l3a
    refine ⟨_, rfl, p, B, d, _, rfl, p3a, Y.cl, Y.nH, (by show 3 < 1000; decide), ?_⟩
    generalize upd H3a p (.ins B d (putF "held" (.ref ah) [(("state" : Str), .int 0), ("chips", .ref ac), ("joined", .ref aj)])) = H4 at i3 ⊢
    rw [bi_4] at i3
    obtain ⟨k4, p4, l4⟩ := i3
    exact k H4 ⟨ac, aj, ah, p4⟩ k4
/-! ### Board.start -/
def spStart (B C : Addr) : Sp := fun vs H Q _ => ∃ (bp d ac aj ah a1 a2 a3 a4 : Addr) (st0 n s : Nat) (ms : List Kh264.Made) (j dd : List Nat), vs = [.ref bp, .int n, .int s, .ref a1, .ref a2, .ref a3, .ref a4] ∧ H bp = some (.ins B d (bfl st0 ac aj ah)) ∧
  H a1 = some (.lst (vi (chipsI ms))) ∧ H a2 = some (.lst (vi (allI ms))) ∧ H a3 = some (.lst (vn j)) ∧ H a4 = some (.lst (vn dd)) ∧ ms.length ≤ 9 ∧ (∀ m ∈ ms, m.none = 0) ∧ (ms.flatMap fun c => c.cells).length ≤ 50000 ∧ (n ≤ 64 → j.length = n ∧ dd.length = n) ∧
  (Kh264.okStart ms ms.length n j dd s = true → ∀ (H' : Hp) (cs abs : List Addr), BrdAt B C H' bp cs abs (Kh264.start ms n j dd s) → (∀ x ∈ cs, H x = none) → (∀ x ∈ abs, H x = none) → Keep [bp] H H' → Q (.int 0) H') ∧
  (Kh264.okStart ms ms.length n j dd s = false → ∀ H' : Hp, Same H H' → Q (.int (-22)) H')
theorem sc_start : FnScope ["self", "nets", "state", "chips", "cells", "joined", "held"] ["self", "nets", "state", "chips", "cells", "joined", "held"] (defScope (sB 1)) := ⟨rfl, rfl, rfl, by decide +kernel, rfl, by decide +kernel, by decide +kernel⟩
theorem ok_start {f B C nx g1 g2 g3 g4 : Addr} (D : Def K "start" "Board.start" (sB 1) f ["self", "nets", "state", "chips", "cells", "joined", "held"]) (T : Glb mg) (Y : BoardC K B) (mN : mg "NEXT_STATES" = some (.ref nx)) (tab : Tab K nx)
    (m1 : mg "nets_are_wrong" = some (.ref g1)) (k1 : PySem.W.keepIn K (.ref g1) = true) (O1 : Ok P w K mg base 1 g1 ["nets", "joined", "held"] spNW)
    (m2 : mg "chips_are_wrong" = some (.ref g2)) (k2 : PySem.W.keepIn K (.ref g2) = true) (O2 : Ok P w K mg base 1 g2 ["chips"] spCW)
    (m3 : mg "cells_are_wrong" = some (.ref g3)) (k3 : PySem.W.keepIn K (.ref g3) = true) (O3 : Ok P w K mg base 1 g3 ["cells", "nets"] spLW)
    (m4 : mg "made_chips" = some (.ref g4)) (k4 : PySem.W.keepIn K (.ref g4) = true) (O4 : Ok P w K mg base 4 g4 ["chips", "cells"] (spMk C)) :
    Ok P w K mg base 5 f ["self", "nets", "state", "chips", "cells", "joined", "held"] (spStart B C) := by
  obtain ⟨fd, F, b⟩ := D
  refine ⟨fd, F.ok sc_start (fun vs H Q E h => ?_) (fun cdv A outer s H vs Q E hr h => ?_), b⟩
  · obtain ⟨bp, d, ac, aj, ah, a1, a2, a3, a4, st0, n, s, ms, j, dd, rfl, _⟩ := h
    rfl
  · obtain ⟨bp, d, ac, aj, ah, a1, a2, a3, a4, st0, n, s, ms, j, dd, rfl, hp, h1, h2, h3, h4, h9, hn0, hfl, hl, kT, kF⟩ := h
    have hr1 : Room 1 _ := hr.mono (by decide)
    obtain ⟨as, hlen, tq, _⟩ := tab.ex
    refine ⟨_, pss_cons (ps_if (pw_or (pt_cmpR op_ge (pv 2) (pe_callB call_len_seq (by rfl) T.len PySem.boot_len (pa_cons (pe_glob (v := V.ref nx) (by rfl) mN (by rfl)) pa_nil)) (nomark _))
        (pw_or1 (pt_val (pcall O1 hr1 m1 k1 pass0 (pa_cons (pv 1) (pa_cons (pv 5) (pa_cons (pv 6) pa_nil))))))).pt (pss_one (ps_ret (pgi T.refused))) pss_nil)
      (pss_cons (ps_if (pw_or (pt_val (pcall O2 hr1 m2 k2 pass0 (pa_cons (pv 3) pa_nil))) (pw_or1 (pt_val (pcall O3 hr1 m3 k3 pass0 (pa_cons (pv 4) (pa_cons (pv 1) pa_nil)))))).pt (pss_one (ps_ret (pgi T.refused))) pss_nil)
      (pss_cons (ps_fld (pv 0) (pv 2) rfl)
      (pss_cons (ps_fld (pv 0) (pcall O4 hr m4 k4 pass0 (pa_cons (pv 3) (pa_cons (pv 4) pa_nil))) rfl)
      (pss_cons (ps_fld (pv 0) (pv 5) rfl) (pss_cons (ps_fld (pv 0) (pv 6) rfl) (pss_one (ps_ret pe_int))))))), ?_⟩
    have eOk := okStart_eq (nets := n) (s := s) (j := j) (d := dd) hn0
    have no : Kh264.okStart ms ms.length n j dd s = false → ∀ H' : Hp, Same H H' → Q (.int (-22)) H' := kF
    refine ⟨_, rfl, nx, _, rfl, .inr (tq H), _, _, rfl, rfl, _, rfl, ?_⟩
    have e16 : (((as.map V.ref).length : Nat) : Int) = 16 := by rw [List.length_map, hlen]; rfl
    refine iteD (fun hs => ?_) (fun hs => ?_)
    · refine no ?_ H (same_refl H)
      rw [eOk, decide_eq_false (by omega)]; rfl
    have hs15 : s ≤ 15 := by omega
    rw [decide_eq_true hs15, Bool.true_and] at eOk
    refine ⟨_, rfl, _, rfl, _, rfl, n, a3, a4, j, dd, rfl, h3, h4, hl, _, rfl, ?_⟩
    cases eN : okNets n j dd with
    | false =>
      refine no ?_ H (same_refl H)
      rw [eOk, eN]; rfl
    | true =>
      rw [eN, Bool.true_and] at eOk
      refine ⟨_, rfl, a1, ms, rfl, h1, h9, _, rfl, ?_⟩
      cases eC : okChips ms with
      | false =>
        refine no ?_ H (same_refl H)
        rw [eOk, eC]; rfl
      | true =>
        rw [eC, Bool.true_and] at eOk
        refine ⟨_, rfl, _, rfl, a2, ms.flatMap (fun c => c.cells), n, rfl, by rw [← allI_cells]; exact h2, hfl, fun H1 s1 => ⟨_, rfl, ?_⟩⟩
        rw [← okCells_flat]
        cases eL : okCells ms n with
        | false =>
          refine no ?_ H1 s1
          rw [eOk, eL]
        | true =>
          rw [eL] at eOk
          have wf := wf_start eOk hn0
          have hch := eC
          simp only [okChips, Bool.and_eq_true, decide_eq_true_eq, List.all_eq_true] at hch
          obtain ⟨c1, c8, call⟩ := hch
          -- state
          have n64 : n ≤ 64 := by
            have q := eN
            simp only [okNets, Bool.and_eq_true, decide_eq_true_eq] at q
            exact q.2.1
          refine ⟨_, rfl, _, rfl, bp, B, d, _, rfl, s1 _ _ hp, Y.cl, Y.nS, (by show 4 < 1000; decide), ?_⟩
          rw [bp_s]
          have kp2 : Keep [bp] H (upd H1 bp (.ins B d (bfl s ac aj ah))) := (Keep.of_same s1).upd (by simp)
          have nl : ∀ {x : Addr} {xs : List V}, H x = some (.lst xs) → x ∉ [bp] := fun {x xs} hx m => ne_lst_ins hx hp (List.mem_singleton.mp m)
          have p2 : (upd H1 bp (.ins B d (bfl s ac aj ah))) bp = some (.ins B d (bfl s ac aj ah)) := upd_same
          generalize upd H1 bp (.ins B d (bfl s ac aj ah)) = H2 at kp2 p2 ⊢
          -- chips
          refine ⟨_, rfl, _, rfl, a1, a2, ms, rfl, kp2 _ _ h1 (nl h1), kp2 _ _ h2 (nl h2), c8, fun m hm => ?_, fun H3 q cs abs hq s3 hq3 kc f1 f2 nq => ?_⟩
          · have z := call m hm
            simp only [okOne, Bool.and_eq_true, decide_eq_true_eq] at z
            exact ⟨z.2.1, z.2.2⟩
          have nH : ∀ x, H2 x = none → H x = none := fun x hx => keep_none kp2 p2 hx
          refine ⟨_, rfl, bp, B, d, _, rfl, s3 _ _ p2, Y.cl, Y.nC, (by show 4 < 1000; decide), ?_⟩
          rw [bp_c]
          have kp4 : Keep [bp] H3 (upd H3 bp (.ins B d (bfl s q aj ah))) := (Keep.refl _ H3).upd (by simp)
          have p4 : (upd H3 bp (.ins B d (bfl s q aj ah))) bp = some (.ins B d (bfl s q aj ah)) := upd_same
          generalize upd H3 bp (.ins B d (bfl s q aj ah)) = H4 at kp4 p4 ⊢
          -- joined
          refine ⟨_, rfl, _, rfl, bp, B, d, _, rfl, p4, Y.cl, Y.nJ, (by show 4 < 1000; decide), ?_⟩
          rw [bp_j]
          have kp5 : Keep [bp] H3 (upd H4 bp (.ins B d (bfl s q a3 ah))) := kp4.upd (by simp)
          have p5 : (upd H4 bp (.ins B d (bfl s q a3 ah))) bp = some (.ins B d (bfl s q a3 ah)) := upd_same
          generalize upd H4 bp (.ins B d (bfl s q a3 ah)) = H5 at kp5 p5 ⊢
          -- held
          refine ⟨_, rfl, _, rfl, bp, B, d, _, rfl, p5, Y.cl, Y.nH, (by show 4 < 1000; decide), ?_⟩
          rw [bp_h]
          have kp6 : Keep [bp] H3 (upd H5 bp (.ins B d (bfl s q a3 a4))) := kp5.upd (by simp)
          have p6 : (upd H5 bp (.ins B d (bfl s q a3 a4))) bp = some (.ins B d (bfl s q a3 a4)) := upd_same
          generalize upd H5 bp (.ins B d (bfl s q a3 a4)) = H6 at kp6 p6 ⊢
          have b3 : H3 bp = some (.ins B d (bfl s ac aj ah)) := s3 _ _ p2
          have nbc : bp ∉ cs := fun m => by rw [f1 bp m] at p2; cases p2
          have nl3 : ∀ {x : Addr} {xs : List V}, H3 x = some (.lst xs) → x ∉ [bp] := fun {x xs} hx m => ne_lst_ins hx b3 (List.mem_singleton.mp m)
          have g3 := s3 _ _ (kp2 _ _ h3 (nl h3))
          have g4 := s3 _ _ (kp2 _ _ h4 (nl h4))
          have na : ∀ {x : Addr} {xs : List V}, H x = some (.lst xs) → x ∉ abs := fun {x xs} hx m => by
            have z := kp2 _ _ hx (nl hx)
            rw [f2 x m] at z; cases z
          refine kT eOk H6 cs abs ⟨⟨d, q, a3, a4, p6, kp6 _ _ hq3 (nl3 hq3), kp6 _ _ g3 (nl3 g3), kp6 _ _ g4 (nl3 g4), nq, na h3, na h4⟩, kc.keepI b3 nbc kp6⟩ (fun x hx => nH x (f1 x hx)) (fun x hx => nH x (f2 x hx)) ?_
          exact fun b o e hb => kp6 b o (s3 b o (kp2 b o e hb)) hb
end
end Cc

end

section
set_option Elab.async false
set_option linter.all false
set_option maxRecDepth 100000
set_option maxHeartbeats 4000000
namespace Cc
open PySem PySem.Spec PyProof.Rows L2
/-! ### the nets' values, stage by stage -/
def stg (b : Kh264.Board) : Nat → Nat → Bool
  | 0, g => !(Kh264.pulled b g)
  | 1, g => if Kh264.heldAt b g 2 then true else !(Kh264.pulled b g)
  | _ + 2, g => if Kh264.heldAt b g 1 then false else if Kh264.heldAt b g 2 then true else !(Kh264.pulled b g)
def mkN : Nat → Nat
  | 0 => 2
  | _ + 1 => 1
def lvN : Nat → Bool
  | 0 => true
  | _ + 1 => false
def hpt (b : Kh264.Board) (i k g : Nat) : Bool := (List.range k).any fun t => Kh264.groupOf b t == g && b.held.getD t 0 == mkN i
def pul (b : Kh264.Board) (i g : Nat) : Bool := (b.chips.take i).any fun c => pullBy (Kh264.groupOf b) (drives0 c) g
theorem stg_step (b : Kh264.Board) (i g : Nat) (h : i < 2) : (if hpt b i b.nets g = true then lvN i else stg b i g) = stg b (i + 1) g := by
  match i, h with
  | 0, _ =>
    have e : hpt b 0 b.nets g = Kh264.heldAt b g 2 := (heldAt_eq b g 2).symm
    rw [e]; rfl
  | 1, _ =>
    have e : hpt b 1 b.nets g = Kh264.heldAt b g 1 := (heldAt_eq b g 1).symm
    rw [e]; rfl
theorem value_stg (b : Kh264.Board) (i : Nat) : Kh264.value b i = stg b 2 (Kh264.groupOf b i) := rfl
theorem grp_get {b : Kh264.Board} (wf : BoardWf b) {i : Nat} (h : i < b.nets) : b.joined[i]? = some (Kh264.groupOf b i) := by
  have hi : i < b.joined.length := by rw [wf.jl]; exact h
  have e : b.joined[i]? = some b.joined[i] := List.getElem?_eq_getElem hi
  unfold Kh264.groupOf
  rw [List.getD_eq_getElem?_getD, e]; rfl
theorem grp_lt {b : Kh264.Board} (wf : BoardWf b) {i : Nat} (h : i < b.nets) : Kh264.groupOf b i < b.nets := Nat.lt_of_le_of_lt (wf.jle i h) h
theorem lvl_eq {b : Kh264.Board} (wf : BoardWf b) : b.joined.map (stg b 2) = lvl b := by
  apply List.ext_getElem?
  intro i
  unfold lvl
  rw [List.getElem?_map, List.getElem?_map]
  by_cases h : i < b.nets
  · rw [grp_get wf h, List.getElem?_range h]; rfl
  · rw [List.getElem?_eq_none (by rw [wf.jl]; omega), List.getElem?_eq_none (by simp; omega)]; rfl
theorem og_set {n j : Nat} {f f' : Nat → Bool} {v : Bool} (h : ∀ g, f' g = if g = j then v else f g) : (vb ((List.range n).map f)).set j (V.int (bi v)) = vb ((List.range n).map f') := by
  unfold vb
  have e : ((List.map (fun b => V.int (bi b)) ((List.range n).map f)).set j (V.int (bi v))) = List.map (fun b => V.int (bi b)) (((List.range n).map f).set j v) := by rw [List.map_set]
  rw [e, set_range]
  congr 1
  congr 1
  funext g
  exact (h g).symm
theorem ixN_nat {n j : Nat} (h : j < n) : ixN n (j : Int) = some j := by
  unfold ixN
  rw [if_pos (by omega), if_pos (by omega)]
  rfl
theorem og_len (n : Nat) (f : Nat → Bool) : (vb ((List.range n).map f)).length = n := by rw [vb_len, List.length_map, List.length_range]
theorem drives0_lt {n : Nat} {c : Kh264.Chip} (wf : ChipWf n c) {x : Nat} (h : x ∈ drives0 c) : x < n := by
  unfold drives0 at h
  by_cases e : c.instruction = 0
  · rw [if_pos e] at h
    obtain ⟨y, hy, rfl⟩ := List.mem_map.mp h
    have h1 := (List.mem_filter.mp hy).1
    exact wf.nets y.1 (List.of_mem_zip h1).1
  · rw [if_neg e] at h; cases h
section
variable {P : Program} {w : World} {K : PySem.W.Frag} {mg : Str → Option Value} {base : Heap}
/-! ### Board.levels -/
def spLev (B C : Addr) : Sp := fun vs H Q _ => ∃ (bp : Addr) (cs abs : List Addr) (b : Kh264.Board), vs = [.ref bp] ∧ BrdAt B C H bp cs abs b ∧ BoardWf b ∧
  ∀ (H' : Hp) (q : Addr), H q = none → Same H H' → H' q = some (.lst (vb (lvl b))) → Q (.ref q) H'
theorem sc_lev : FnScope ["self", "of_group", "chip", "net", "level", "mark", "held", "group"] ["self"] (defScope (sB 7)) := ⟨rfl, rfl, rfl, by decide +kernel, rfl, by decide +kernel, by decide +kernel⟩
theorem keepQ {H H1 H' : Hp} {q : Addr} (hq : H q = none) (s : Same H H1) (k : Keep [q] H1 H') : Same H H' := fun b o e => k b o (s b o e) fun m => by rw [List.mem_singleton.mp m, hq] at e; cases e
theorem ok_lev {f B C g : Addr} (D : Def K "levels" "Board.levels" (sB 7) f ["self"]) (T : Glb mg) (Y : BoardC K B) (YC : ChipC K C) (m : Meth K C "nets_driven_to_0" g) (O : Ok P w K mg base 1 g ["self"] (spDriven C)) : Ok P w K mg base 2 f ["self"] (spLev B C) := by
  obtain ⟨fd, F, bnd⟩ := D
  refine ⟨fd, F.ok sc_lev (fun vs H Q E h => ?_) (fun cdv A outer s H vs Q E hr h => ?_), bnd⟩
  · obtain ⟨bp, cs, abs, b, rfl, _⟩ := h
    rfl
  · obtain ⟨bp, cs, abs, b, rfl, hB, wf, k⟩ := h
    have hB0 := hB
    obtain ⟨⟨d, ac, aj, ah, hp, hc, hj, hh, z1, z2, z3⟩, kc⟩ := hB
    refine ⟨_, pss_cons (ps_set (i := 1) sc_lev.nd rfl (Or.inr rfl) (pe_op op_rep (pe_lst (pa_cons pe_int pa_nil)) (pe_callB call_len_seq (by rfl) T.len PySem.boot_len (pa_cons (pe_fld (pv 0) rfl) pa_nil))))
      (pss_cons (ps_for PassesOwn.never rfl (pi_list (pe_fld (pv 0) rfl)) (pg_name (i := 2) sc_lev.nd rfl (Or.inl rfl))
        (pss_one (ps_for PassesOwn.never rfl (pi_list (pmeth0 (pv 2) YC.cl m O hr pass0)) (pg_name (i := 3) sc_lev.nd rfl (Or.inl rfl))
          (pss_one (ps_asg pe_int (pg_sub (pv 1) (pe_ix ix_list (pe_fld (pv 0) rfl) (pv 3) (fun _ _ => rfl)) set_list))))))
      (pss_cons (ps_for PassesOwn.never rfl (pi_tup (pe_tup (pa_cons (pe_tup (pa_cons pe_int (pa_cons (pgi T.held1) pa_nil))) (pa_cons (pe_tup (pa_cons pe_int (pa_cons (pgi T.held0) pa_nil))) pa_nil))))
        (pg_tup rfl (pgs_cons (pg_name (i := 4) sc_lev.nd rfl (Or.inl rfl)) (pgs_cons (pg_name (i := 5) sc_lev.nd rfl (Or.inl rfl)) pgs_nil)))
        (pss_one (ps_for PassesOwn.never rfl (pi_enum rfl T.enum (pa_cons (pe_fld (pv 0) rfl) pa_nil)) (pg_tup rfl (pgs_cons (pg_name (i := 3) sc_lev.nd rfl (Or.inl rfl)) (pgs_cons (pg_name (i := 6) sc_lev.nd rfl (Or.inl rfl)) pgs_nil)))
          (pss_one (ps_if (pt_cmpR op_eq (pv 6) (pv 5) (nomark _)) (pss_one (ps_asg (pv 4) (pg_sub (pv 1) (pe_ix ix_list (pe_fld (pv 0) rfl) (pv 3) (fun _ _ => rfl)) set_list))) pss_nil)))))
      (pss_one (ps_ret (pe_lc (own := [("group", 7)]) rfl sc_lev.nd (pi_list (pe_fld (pv 0) rfl)) (blkOk_by (by show blkC ["self", "of_group", "chip", "net", "level", "mark", "held", "group"] (defScope (sB 7)) _ [("group", 7)] = true; decide +kernel))
        (fun _ _ _ _ _ => pg_name (i := 7) sc_lev.nd rfl (Or.inl rfl)) (fun _ _ _ _ _ => pts_nil) (fun _ _ _ _ _ => pe_ix (r := rIxL K) ix_list (pv 1) (pv 7) (fun _ _ => rfl))))))), ?_⟩
    -- of_group
    refine ⟨(by show 1 ≤ sizeLine; decide), fun t0 ht0 => ?_⟩
    have s0 : Same H (upd H t0 (.lst [.int 1])) := same_new (same_refl H) ht0
    have g0 : (upd H t0 (.lst [.int 1])) t0 = some (.lst [.int 1]) := upd_same
    generalize upd H t0 (.lst [.int 1]) = H0 at s0 g0 ⊢
    have jl : (vn b.joined).length = b.nets := by rw [vn_len]; exact wf.jl
    have n64 := wf.n64
    refine ⟨_, rfl, bp, B, d, _, _, rfl, s0 _ _ hp, Y.cl, Y.nJ, bk_j .., aj, _, rfl, .inl (SqL.of (s0 _ _ hj)), t0, _, _, rfl, rfl, g0, by omega, by omega, ?_, fun q hq0 => ?_⟩
    · rw [jl, Int.toNat_natCast]; exact le_line (by show 1 * _ ≤ _; omega)
    rw [jl, Int.toNat_natCast, rep_flat1, replicate_range]
    have hq : H q = none := s0.free hq0
    have s1 : Same H (upd H0 q (.lst (vb ((List.range b.nets).map fun _ => true)))) := same_new s0 hq
    have g1 : (upd H0 q (.lst (vb ((List.range b.nets).map fun _ => true)))) q = some (.lst (vb ((List.range b.nets).map fun _ => true))) := upd_same
    generalize upd H0 q (.lst (vb ((List.range b.nets).map fun _ => true))) = H1 at s1 g1 ⊢
    -- the chips
    refine ⟨_, rfl, bp, B, d, _, _, rfl, s1 _ _ hp, Y.cl, Y.nC, bk_c .., ac, rfl, ⟨_, SqL.of (s1 _ _ hc)⟩, for_list (K := K) (a := ac) (xs := cs.map V.ref) (fun i σ H' => (∃ v2 v3 v4 v5 v6 v7 : Option V, σ = [some (.ref bp), some (.ref q), v2, v3, v4, v5, v6, v7]) ∧ Same H H' ∧ H' q = some (.lst (vb ((List.range b.nets).map fun g => !(pul b i g)))))
      ⟨⟨none, none, none, none, none, none, rfl⟩, s1, g1⟩ ?_ ?_ ?_⟩
    · rintro i σ H' _ ⟨_, sm, _⟩
      exact SqL.of (sm _ _ hc)
    · rintro i x σ H' hx ⟨⟨v2, v3, v4, v5, v6, v7, rfl⟩, sm, hq'⟩
      obtain ⟨p, ab, c, e1, e2, e3, kca⟩ := kc.ref (j := i) (by rw [← List.length_map (f := V.ref)]; exact (List.getElem?_eq_some_iff.mp hx).1)
      rw [List.getElem?_map, e1] at hx
      have ex : x = V.ref p := (Option.some.inj hx).symm
      subst ex
      have wc := wf.chips c (List.mem_of_getElem? e3)
      obtain ⟨dx, an, ad, adt, ai, cp, _⟩ := kca.ex
      refine ⟨_, rfl, p, dx, _, rfl, sm _ _ cp, lk_m10 .., p, ab, c, abs, b.nets, rfl, kca.same sm, wc, fun H2 qd hqd s2 hl => ?_⟩
      have nqd : q ≠ qd := ne_of_none hq' hqd
      refine ⟨qd, rfl, ⟨_, SqL.of hl⟩, for_list (K := K) (a := qd) (xs := vn (drives0 c)) (fun j σ H'' => (∃ v2 v3 v4 v5 v6 v7 : Option V, σ = [some (.ref bp), some (.ref q), v2, v3, v4, v5, v6, v7]) ∧ Same H H'' ∧ H'' qd = some (.lst (vn (drives0 c))) ∧
          H'' q = some (.lst (vb ((List.range b.nets).map fun g => !(pul b i g || pullBy (Kh264.groupOf b) ((drives0 c).take j) g)))))
        ⟨⟨_, _, _, _, _, _, rfl⟩, sm.trans s2, hl, ?_⟩ ?_ ?_ ?_⟩
      · rw [s2 _ _ hq']
        have e : (fun g => !(pul b i g || pullBy (Kh264.groupOf b) ((drives0 c).take 0) g)) = fun g => !(pul b i g) := by
          funext g
          have : pullBy (Kh264.groupOf b) ((drives0 c).take 0) g = false := rfl
          rw [this, Bool.or_false]
        rw [e]
      · rintro j σ H'' _ ⟨_, _, hd, _⟩
        exact SqL.of hd
      · rintro j x σ H'' hx ⟨⟨v2, v3, v4, v5, v6, v7, rfl⟩, sm2, hd2, hq2⟩
        obtain ⟨nt, hnt, rfl⟩ := of_vn hx
        have ntl : nt < b.nets := drives0_lt wc (List.mem_of_getElem? hnt)
        refine ⟨_, rfl, _, rfl, bp, B, d, _, _, rfl, sm2 _ _ hp, Y.cl, Y.nJ, bk_j .., _, rfl, aj, _, _, _, rfl, rfl, SqL.of (sm2 _ _ hj), atI_nat (vn_get (grp_get wf ntl)), q, _, _, Kh264.groupOf b nt, rfl, rfl, hq2, ?_, ?_⟩
        · rw [og_len]; exact ixN_nat (grp_lt wf ntl)
        · refine ⟨⟨_, _, _, _, _, _, rfl⟩, same_new sm2 hq, by rw [upd_ne (Ne.symm nqd)]; exact hd2, ?_⟩
          rw [upd_same]
          have e := og_set (n := b.nets) (j := Kh264.groupOf b nt) (v := false) (f := fun g => !(pul b i g || pullBy (Kh264.groupOf b) ((drives0 c).take j) g)) (f' := fun g => !(pul b i g || pullBy (Kh264.groupOf b) ((drives0 c).take (j + 1)) g)) fun g => by
            show (!(pul b i g || pullBy (Kh264.groupOf b) ((drives0 c).take (j + 1)) g)) = _
            have e1 : pullBy (Kh264.groupOf b) ((drives0 c).take (j + 1)) g = (pullBy (Kh264.groupOf b) ((drives0 c).take j) g || Kh264.groupOf b nt == g) := any_take_snoc _ hnt
            rw [e1]
            by_cases hg : g = Kh264.groupOf b nt
            · rw [if_pos hg, hg]; simp
            · have e2 : (Kh264.groupOf b nt == g) = false := by rw [beq_eq_false_iff_ne]; exact fun z => hg z.symm
              rw [if_neg hg, e2, Bool.or_false]
          exact congrArg (fun z => some (HO.lst z)) e
      · rintro σ H'' ⟨⟨v2, v3, v4, v5, v6, v7, rfl⟩, sm2, _, hq2⟩
        refine ⟨⟨_, _, _, _, _, _, rfl⟩, sm2, ?_⟩
        rw [hq2, vn_len, List.take_length]
        have e : (fun g => !(pul b i g || pullBy (Kh264.groupOf b) (drives0 c) g)) = fun g => !(pul b (i + 1) g) := by
          funext g
          have e1 : pul b (i + 1) g = (pul b i g || pullBy (Kh264.groupOf b) (drives0 c) g) := any_take_snoc _ e3
          rw [e1]
        rw [e]
    · rintro σ H2 ⟨⟨v2, v3, v4, v5, v6, v7, rfl⟩, sm, hq2⟩
      have e0 : (fun g => !(pul b (cs.map V.ref).length g)) = stg b 0 := by
        funext g
        unfold pul
        rw [List.length_map, kc.len, List.take_length, ← pulled_eq]; rfl
      rw [e0] at hq2
      -- the marks
      refine ⟨(by show 2 ≤ sizeLine; decide), fun t1 ht1 => ?_⟩
      refine ⟨(by show 2 ≤ sizeLine; decide), fun t2 ht2 => ?_⟩
      refine ⟨(by show 2 ≤ sizeLine; decide), fun t ht => ?_⟩
      have sA : Same H2 (upd H2 t1 (.tup [.int 1, .int 2])) := same_new (same_refl H2) ht1
      have gA : (upd H2 t1 (.tup [.int 1, .int 2])) t1 = some (.tup [.int 1, .int 2]) := upd_same
      generalize upd H2 t1 (.tup [.int 1, .int 2]) = HA at sA gA ht2 ht ⊢
      have sB2 : Same HA (upd HA t2 (.tup [.int 0, .int 1])) := same_new (same_refl HA) ht2
      have gB : (upd HA t2 (.tup [.int 0, .int 1])) t2 = some (.tup [.int 0, .int 1]) := upd_same
      generalize upd HA t2 (.tup [.int 0, .int 1]) = HB at sB2 gB ht ⊢
      have sC2 : Same HB (upd HB t (.tup [.ref t1, .ref t2])) := same_new (same_refl HB) ht
      have gC : (upd HB t (.tup [.ref t1, .ref t2])) t = some (.tup [.ref t1, .ref t2]) := upd_same
      generalize upd HB t (.tup [.ref t1, .ref t2]) = HC at sC2 gC ⊢
      have sH : Same H HC := ((sm.trans sA).trans sB2).trans sC2
      have qC : HC q = some (.lst (vb ((List.range b.nets).map (stg b 0)))) := sC2 _ _ (sB2 _ _ (sA _ _ hq2))
      have g1C := sC2 _ _ (sB2 _ _ gA)
      have g2C := sC2 _ _ gB
      have tq : ∀ {x : Addr} {xs : List V}, HC x = some (.tup xs) → x ∉ [q] := fun {x xs} hx m => ne_of hx qC (by intro z; cases z) (List.mem_singleton.mp m)
      refine ⟨t, rfl, ⟨_, SqT.of gC⟩, for_tup (K := K) (a := t) (xs := [.ref t1, .ref t2]) (fun i σ H' => (∃ v2 v3 v4 v5 v6 v7 : Option V, σ = [some (.ref bp), some (.ref q), v2, v3, v4, v5, v6, v7]) ∧ Keep [q] HC H' ∧ H' q = some (.lst (vb ((List.range b.nets).map (stg b i)))))
        ⟨⟨_, _, _, _, _, _, rfl⟩, Keep.refl _ _, qC⟩ ?_ ?_ ?_⟩
      · rintro i σ H' _ ⟨_, kp, _⟩
        exact SqT.of (kp _ _ gC (tq gC))
      · rintro i x σ H' hx ⟨⟨v2, v3, v4, v5, v6, v7, rfl⟩, kp, hq'⟩
        have hi2 : i < 2 := (List.getElem?_eq_some_iff.mp hx).1
        obtain ⟨ti, rfl, hti⟩ : ∃ ti, x = V.ref ti ∧ HC ti = some (.tup [.int (bi (lvN i)), .int (mkN i : Nat)]) := by
          match i, hi2, hx with
          | 0, _, hx => exact ⟨t1, (Option.some.inj hx).symm, g1C⟩
          | 1, _, hx => exact ⟨t2, (Option.some.inj hx).symm, g2C⟩
        have sm3 : Same H H' := keepQ hq sH kp
        refine ⟨ti, _, rfl, SqT.of (kp _ _ hti (tq hti)), rfl, _, _, rfl, _, _, rfl, rfl, ?_⟩
        refine ⟨_, rfl, bp, B, d, _, _, rfl, sm3 _ _ hp, Y.cl, Y.nH, bk_h .., ah, _, rfl, SqL.of (sm3 _ _ hh), for_enum (K := K) (a := ah) (xs := vn b.held)
          (fun j σ H'' => (∃ v2 v3 v6 v7 : Option V, σ = [some (.ref bp), some (.ref q), v2, v3, some (.int (bi (lvN i))), some (.int (mkN i : Nat)), v6, v7]) ∧ Keep [q] HC H'' ∧ H'' q = some (.lst (vb ((List.range b.nets).map fun g => if hpt b i j g = true then lvN i else stg b i g))))
          ⟨⟨_, _, _, _, rfl⟩, kp, hq'⟩ ?_ ?_ ?_⟩
        · rintro j σ H'' _ ⟨_, kp2, _⟩
          exact SqL.of ((keepQ hq sH kp2) _ _ hh)
        · rintro j x t' σ H'' hx ⟨⟨v2, v3, v6, v7, rfl⟩, kp2, hq2⟩ ht'
          obtain ⟨hk, hhk, rfl⟩ := of_vn hx
          have jn : j < b.nets := by rw [← wf.hl]; exact (List.getElem?_eq_some_iff.mp hhk).1
          have kp3 : Keep [q] HC (upd H'' t' (.tup [.int (j : Nat), V.int hk])) := fun b o e nb => by
            rw [upd_ne (ne_of_none (kp2 b o e nb) ht')]; exact kp2 b o e nb
          have hq3 : (upd H'' t' (.tup [.int (j : Nat), V.int hk])) q = some (.lst (vb ((List.range b.nets).map fun g => if hpt b i j g = true then lvN i else stg b i g))) := by
            rw [upd_ne (ne_of_none hq2 ht')]; exact hq2
          have gT : (upd H'' t' (.tup [.int (j : Nat), V.int hk])) t' = some (.tup [.int (j : Nat), V.int hk]) := upd_same
          generalize upd H'' t' (.tup [.int (j : Nat), V.int hk]) = H3 at kp3 hq3 gT ⊢
          have sm4 : Same H H3 := keepQ hq sH kp3
          have eh : b.held.getD j 0 = hk := by rw [List.getD_eq_getElem?_getD, hhk]; rfl
          have hst : ∀ g, hpt b i (j + 1) g = (hpt b i j g || (Kh264.groupOf b j == g && hk == mkN i)) := fun g => by
            unfold hpt
            rw [any_range_snoc, eh]
          refine ⟨t', _, rfl, SqT.of gT, rfl, _, _, rfl, _, _, rfl, rfl, ?_⟩
          refine ⟨_, rfl, _, rfl, rfl, _, rfl, ?_⟩
          refine iteI (fun e => ?_) (fun e => ?_)
          · have ehk : hk = mkN i := by omega
            refine ⟨_, rfl, _, rfl, _, rfl, bp, B, d, _, _, rfl, sm4 _ _ hp, Y.cl, Y.nJ, bk_j .., _, rfl, aj, _, _, _, rfl, rfl, SqL.of (sm4 _ _ hj), atI_nat (vn_get (grp_get wf jn)), q, _, _, Kh264.groupOf b j, rfl, rfl, hq3, ?_, ?_⟩
            · rw [og_len]; exact ixN_nat (grp_lt wf jn)
            · refine ⟨⟨_, _, _, _, rfl⟩, kp3.upd (by simp), ?_⟩
              rw [upd_same]
              have e := og_set (n := b.nets) (j := Kh264.groupOf b j) (v := lvN i) (f := fun g => if hpt b i j g = true then lvN i else stg b i g) (f' := fun g => if hpt b i (j + 1) g = true then lvN i else stg b i g) fun g => by
                show (if hpt b i (j + 1) g = true then lvN i else stg b i g) = _
                rw [hst g]
                by_cases hg : g = Kh264.groupOf b j
                · rw [if_pos hg, hg, ehk]; simp
                · have e2 : (Kh264.groupOf b j == g) = false := by rw [beq_eq_false_iff_ne]; exact fun z => hg z.symm
                  rw [if_neg hg, e2, Bool.false_and, Bool.or_false]
              exact congrArg (fun z => some (HO.lst z)) e
          · refine ⟨⟨_, _, _, _, rfl⟩, kp3, ?_⟩
            rw [hq3]
            have e2 : (fun g => if hpt b i (j + 1) g = true then lvN i else stg b i g) = fun g => if hpt b i j g = true then lvN i else stg b i g := by
              funext g
              have e3 : (hk == mkN i) = false := by rw [beq_eq_false_iff_ne]; exact fun z => e (by rw [z])
              rw [hst g, e3, Bool.and_false, Bool.or_false]
            rw [e2]
        · rintro σ H'' ⟨⟨v2, v3, v6, v7, rfl⟩, kp2, hq2⟩
          refine ⟨⟨_, _, _, _, _, _, rfl⟩, kp2, ?_⟩
          rw [hq2, vn_len, wf.hl]
          have e : (fun g => if hpt b i b.nets g = true then lvN i else stg b i g) = stg b (i + 1) := funext fun g => stg_step b i g hi2
          rw [e]
      · rintro σ H3 ⟨⟨v2, v3, v4, v5, v6, v7, rfl⟩, kp, hq3⟩
        have sm5 : Same H H3 := keepQ hq sH kp
        -- the values
        refine ⟨_, rfl, bp, B, d, _, _, rfl, sm5 _ _ hp, Y.cl, Y.nJ, bk_j .., aj, rfl, ⟨_, SqL.of (sm5 _ _ hj)⟩, fun D hD => ?_⟩
        refine lc_list (K := K) (a := aj) (xs := vn b.joined) (fun i H' => Same H H' ∧ H' q = some (.lst (vb ((List.range b.nets).map (stg b 2)))) ∧ H' D = some (.lst (vb ((b.joined.take i).map (stg b 2)))))
          ⟨same_new sm5 (sm5.free hD), by rw [upd_ne (ne_of_none hq3 hD)]; exact hq3, upd_same⟩ ?_ ?_ ?_
        · rintro i H' _ ⟨sm6, _⟩
          exact SqL.of (sm6 _ _ hj)
        · rintro i x H' hx ⟨sm6, q6, d6⟩
          obtain ⟨gg, hgg, rfl⟩ := of_vn hx
          have ig : i < b.nets := by rw [← wf.jl]; exact (List.getElem?_eq_some_iff.mp hgg).1
          have egg : gg = Kh264.groupOf b i := Option.some.inj (hgg.symm.trans (grp_get wf ig))
          have ggl : gg < b.nets := by rw [egg]; exact grp_lt wf ig
          refine ⟨rfl, ?_⟩
          refine ⟨_, rfl, _, rfl, q, _, _, _, rfl, rfl, SqL.of q6, atI_nat (vb_get (get_rangeMap _ ggl)), _, d6, ?_, same_new sm6 (sm5.free hD), ?_, ?_⟩
          · rw [vb_len, List.length_map, List.length_take]
            exact lt_line (by omega)
          · rw [upd_ne (ne_of_none hq3 hD)]; exact q6
          · rw [upd_same, take_snoc hgg, List.map_append]
            exact congrArg (fun z => some (HO.lst z)) (vb_snoc _ _).symm
        · rintro H' ⟨sm6, q6, d6⟩
          rw [vn_len, List.take_length, lvl_eq wf] at d6
          exact k H' D (sm5.free hD) sm6 d6
/-! ### Board.net -/
def spNet (B C : Addr) : Sp := fun vs H Q _ => ∃ (bp : Addr) (cs abs : List Addr) (b : Kh264.Board) (i : Nat), vs = [.ref bp, .int i] ∧ BrdAt B C H bp cs abs b ∧ BoardWf b ∧
  (b.nets ≤ i → Q (.int (-22)) H) ∧ (i < b.nets → ∀ H' : Hp, Same H H' → Q (.int (bi (Kh264.value b i))) H')
theorem sc_net : FnScope ["self", "wanted"] ["self", "wanted"] (defScope (sB 8)) := ⟨rfl, rfl, rfl, by decide +kernel, rfl, by decide +kernel, by decide +kernel⟩
theorem ok_net {f B C g : Addr} (D : Def K "net" "Board.net" (sB 8) f ["self", "wanted"]) (T : Glb mg) (Y : BoardC K B) (m : Meth K B "levels" g) (O : Ok P w K mg base 2 g ["self"] (spLev B C)) : Ok P w K mg base 3 f ["self", "wanted"] (spNet B C) := by
  obtain ⟨fd, F, bnd⟩ := D
  refine ⟨fd, F.ok sc_net (fun vs H Q E h => ?_) (fun cdv A outer s H vs Q E hr h => ?_), bnd⟩
  · obtain ⟨bp, cs, abs, b, i, rfl, _⟩ := h
    rfl
  · obtain ⟨bp, cs, abs, b, i, rfl, hB, wf, k1, k2⟩ := h
    have hB0 := hB
    obtain ⟨⟨d, ac, aj, ah, hp, hc, hj, hh, z1, z2, z3⟩, kc⟩ := hB
    refine ⟨_, pss_cons (ps_if (pt_cmpR op_ge (pv 1) (pe_callB call_len_seq (by rfl) T.len PySem.boot_len (pa_cons (pe_fld (pv 0) rfl) pa_nil)) (nomark _)) (pss_one (ps_ret (pgi T.refused))) pss_nil)
      (pss_one (ps_ret (pe_ix ix_list (pmeth0 (pv 0) Y.cl m O hr pass0) (pv 1) (fun _ _ => rfl)))), ?_⟩
    have jl : (vn b.joined).length = b.nets := by rw [vn_len]; exact wf.jl
    refine ⟨_, rfl, _, rfl, bp, B, d, _, _, rfl, hp, Y.cl, Y.nJ, bk_j .., aj, _, rfl, .inl (SqL.of hj), _, _, rfl, rfl, _, rfl, ?_⟩
    refine iteD (fun h => ?_) (fun h => ?_)
    · exact k1 (by omega)
    · have hi : i < b.nets := by omega
      refine ⟨_, rfl, bp, d, _, rfl, hp, bk_m7 .., bp, cs, abs, b, rfl, hB0, wf, fun H' q hq sm hl => ?_⟩
      exact ⟨_, rfl, q, _, _, _, rfl, rfl, SqL.of hl, atI_nat (vb_get (get_rangeMap _ hi)), k2 hi H' sm⟩
end
end Cc

end

section
set_option Elab.async false
set_option linter.all false
set_option maxRecDepth 100000
set_option maxHeartbeats 4000000
namespace Cc
open PySem PySem.Spec PyProof.Rows L2
theorem mix_end {α : Type} (f : α → α) {l : List α} {n : Nat} (h : n = l.length) : (l.take n).map f ++ l.drop n = l.map f := by
  subst h
  rw [List.take_length, List.drop_length, List.append_nil]
theorem mix_step {α : Type} (f : α → α) {l : List α} {i : Nat} {c : α} (h : l[i]? = some c) : ((l.take i).map f ++ l.drop i).set i (f c) = (l.take (i + 1)).map f ++ l.drop (i + 1) := by
  have hi : i ≤ l.length := Nat.le_of_lt (List.getElem?_eq_some_iff.mp h).1
  rw [set_mid (len_mid f hi) h, map_snoc f h]
theorem mix_get {α : Type} (f : α → α) {l : List α} {i : Nat} (h : i < l.length) : ((l.take i).map f ++ l.drop i)[i]? = l[i]? := get_mid (len_mid f (Nat.le_of_lt h))
theorem len_ref {cs : List Addr} {l : List Kh264.Chip} {i : Nat} {x : V} (hl : cs.length = l.length) (h : (cs.map V.ref)[i]? = some x) : i < l.length ∧ i < cs.length := by
  have := (List.getElem?_eq_some_iff.mp h).1
  rw [List.length_map] at this
  omega
section
variable {P : Program} {w : World} {K : PySem.W.Frag} {mg : Str → Option Value} {base : Heap}
/-! ### Board.take_data -/
def spBTake (B C : Addr) : Sp := fun vs H Q _ => ∃ (bp : Addr) (cs abs : List Addr) (b : Kh264.Board), vs = [.ref bp] ∧ BrdAt B C H bp cs abs b ∧ BoardWf b ∧ ∀ H' : Hp, BrdAt B C H' bp cs abs { b with chips := b.chips.map (takeDr b) } → Keep (cs ++ abs) H H' → Q .non H'
theorem sc_btake : FnScope ["self", "levels", "chip"] ["self"] (defScope (sB 4)) := ⟨rfl, rfl, rfl, by decide +kernel, rfl, by decide +kernel, by decide +kernel⟩
theorem ok_btake {f B C g1 g2 : Addr} (D : Def K "take_data" "Board.take_data" (sB 4) f ["self"]) (Y : BoardC K B) (YC : ChipC K C) (m1 : Meth K B "levels" g1) (O1 : Ok P w K mg base 2 g1 ["self"] (spLev B C))
    (m2 : Meth K C "take_data" g2) (O2 : Ok P w K mg base 2 g2 ["self", "levels"] (spTake C)) : Ok P w K mg base 3 f ["self"] (spBTake B C) := by
  obtain ⟨fd, F, bnd⟩ := D
  refine ⟨fd, F.ok sc_btake (fun vs H Q E h => ?_) (fun cdv A outer s H vs Q E hr h => ?_), bnd⟩
  · obtain ⟨bp, cs, abs, b, rfl, _⟩ := h
    rfl
  · obtain ⟨bp, cs, abs, b, rfl, hB, wf, k⟩ := h
    have hB0 := hB
    obtain ⟨⟨d, ac, aj, ah, hp, hc, hj, hh, z1, z2, z3⟩, kc⟩ := hB
    refine ⟨_, pss_cons (ps_set (i := 1) sc_btake.nd rfl (Or.inl rfl) (pmeth0 (pv 0) Y.cl m1 O1 hr pass0)) (pss_one (ps_for PassesOwn.never rfl (pi_list (pe_fld (pv 0) rfl)) (pg_name (i := 2) sc_btake.nd rfl (Or.inl rfl))
      (pss_one (ps_expr (pmeth (pv 2) YC.cl m2 O2 hr pass0 (pa_cons (pv 1) pa_nil)))))), ?_⟩
    refine ⟨_, rfl, bp, d, _, rfl, hp, bk_m7 .., bp, cs, abs, b, rfl, hB0, wf, fun H1 q hq s1 hl => ?_⟩
    have hB1 := hB0.same s1
    have nq : q ∉ cs ++ abs := hB1.nlist hl fun m => kc.nz q m hq
    have nac : ac ∉ cs ++ abs := hB1.nlist (s1 _ _ hc) z1
    refine ⟨_, rfl, bp, B, d, _, _, rfl, s1 _ _ hp, Y.cl, Y.nC, bk_c .., ac, rfl, ⟨_, SqL.of (s1 _ _ hc)⟩, for_list (K := K) (a := ac) (xs := cs.map V.ref) (fun i σ H' => (∃ v : Option V, σ = [some (.ref bp), some (.ref q), v]) ∧ Keep (cs ++ abs) H1 H' ∧ ChipsAt C H' cs abs ((b.chips.take i).map (takeDr b) ++ b.chips.drop i))
      ⟨⟨none, rfl⟩, Keep.refl _ _, kc.same s1⟩ ?_ ?_ ?_⟩
    · rintro i σ H' _ ⟨_, kp, _⟩
      exact SqL.of (kp _ _ (s1 _ _ hc) nac)
    · rintro i x σ H' hx ⟨⟨v, rfl⟩, kp, kc'⟩
      obtain ⟨il, ic⟩ := len_ref kc.len hx
      obtain ⟨p, ab, c, e1, e2, e3, ka⟩ := kc'.ref ic
      rw [List.getElem?_map, e1] at hx
      have ex : x = V.ref p := (Option.some.inj hx).symm
      subst ex
      rw [mix_get _ il] at e3
      have wc := wf.chips c (List.mem_of_getElem? e3)
      obtain ⟨dx, an, ad, adt, ai, cp, _⟩ := ka.ex
      refine ⟨_, rfl, p, dx, _, rfl, cp, lk_m3 .., _, rfl, p, ab, q, c, abs, b, rfl, ka, kp _ _ hl nq, wc, kc'.nz, fun H2 hA kp2 => ?_⟩
      refine ⟨⟨_, rfl⟩, kp.trans (ChipsAt.pair e1 e2 kp2), ?_⟩
      have st := kc'.step e1 e2 hA kp2
      rw [mix_step (takeDr b) e3] at st
      exact st
    · rintro σ H' ⟨⟨v, rfl⟩, kp, kc'⟩
      rw [mix_end _ (by rw [List.length_map]; exact kc.len)] at kc'
      exact k H' (hB1.chg kp kc') (fun b o e n => kp b o (s1 b o e) n)
/-! ### Board.shift_data -/
def spBShD (B C : Addr) : Sp := fun vs H Q _ => ∃ (bp : Addr) (cs abs : List Addr) (b : Kh264.Board) (x : Bool), vs = [.ref bp, .int (bi x)] ∧ BrdAt B C H bp cs abs b ∧ BoardWf b ∧
  ∀ H' : Hp, BrdAt B C H' bp cs abs { b with chips := (shC Kh264.Chip.dr putDr x b.chips).1 } → Keep (cs ++ abs) H H' → Q (.int (bi (shC Kh264.Chip.dr putDr x b.chips).2)) H'
theorem sc_bshD : FnScope ["self", "coming", "passing", "chip"] ["self", "coming"] (defScope (sB 5)) := ⟨rfl, rfl, rfl, by decide +kernel, rfl, by decide +kernel, by decide +kernel⟩
theorem ok_bshD {f B C g : Addr} (D : Def K "shift_data" "Board.shift_data" (sB 5) f ["self", "coming"]) (Y : BoardC K B) (YC : ChipC K C) (m : Meth K C "shift_data" g) (O : Ok P w K mg base 1 g ["self", "coming"] (spShD C)) : Ok P w K mg base 2 f ["self", "coming"] (spBShD B C) := by
  obtain ⟨fd, F, bnd⟩ := D
  refine ⟨fd, F.ok sc_bshD (fun vs H Q E h => ?_) (fun cdv A outer s H vs Q E hr h => ?_), bnd⟩
  · obtain ⟨bp, cs, abs, b, x, rfl, _⟩ := h
    rfl
  · obtain ⟨bp, cs, abs, b, x, rfl, hB, wf, k⟩ := h
    have hB0 := hB
    obtain ⟨⟨d, ac, aj, ah, hp, hc, hj, hh, z1, z2, z3⟩, kc⟩ := hB
    refine ⟨_, pss_cons (ps_set (i := 2) sc_bshD.nd rfl (Or.inl rfl) (pv 1)) (pss_cons (ps_for PassesOwn.never rfl (pi_list (pe_fld (pv 0) rfl)) (pg_name (i := 3) sc_bshD.nd rfl (Or.inl rfl))
      (pss_one (ps_set (i := 2) sc_bshD.nd rfl (Or.inl rfl) (pmeth (pv 3) YC.cl m O hr pass0 (pa_cons (pv 2) pa_nil))))) (pss_one (ps_ret (pv 2)))), ?_⟩
    have nac : ac ∉ cs ++ abs := hB0.nlist hc z1
    refine ⟨_, rfl, _, rfl, bp, B, d, _, _, rfl, hp, Y.cl, Y.nC, bk_c .., ac, rfl, ⟨_, SqL.of hc⟩, for_list (K := K) (a := ac) (xs := cs.map V.ref) (fun i σ H' => ∃ (v : Option V) (ds : List Kh264.Chip) (y : Bool), σ = [some (.ref bp), some (.int (bi x)), some (.int (bi y)), v] ∧ Keep (cs ++ abs) H H' ∧ ds.length = i ∧
        ChipsAt C H' cs abs (ds ++ b.chips.drop i) ∧ ds ++ (shC Kh264.Chip.dr putDr y (b.chips.drop i)).1 = (shC Kh264.Chip.dr putDr x b.chips).1 ∧ (shC Kh264.Chip.dr putDr y (b.chips.drop i)).2 = (shC Kh264.Chip.dr putDr x b.chips).2)
      ⟨none, [], x, rfl, Keep.refl _ _, rfl, kc, rfl, rfl⟩ ?_ ?_ ?_⟩
    · rintro i σ H' _ ⟨v, ds, y, _, kp, _⟩
      exact SqL.of (kp _ _ hc nac)
    · rintro i x0 σ H' hx ⟨v, ds, y, rfl, kp, dl, kc', q1, q2⟩
      obtain ⟨il, ic⟩ := len_ref kc.len hx
      obtain ⟨p, ab, c, e1, e2, e3, ka⟩ := kc'.ref ic
      rw [List.getElem?_map, e1] at hx
      have ex : x0 = V.ref p := (Option.some.inj hx).symm
      subst ex
      rw [get_mid dl] at e3
      have wc := wf.chips c (List.mem_of_getElem? e3)
      obtain ⟨dx, an, ad, adt, ai, cp, _⟩ := ka.ex
      refine ⟨_, rfl, p, dx, _, rfl, cp, lk_m5 .., _, rfl, p, ab, y, c, abs, rfl, ka, wc.dr1, wc.dr64, kc'.nz, fun H2 hA kp2 => ?_⟩
      refine ⟨_, ds ++ [putDr c (c.dr.drop 1 ++ [y])], c.dr.headD false, rfl, kp.trans (ChipsAt.pair e1 e2 kp2), by simp [dl], ?_, ?_, ?_⟩
      · have st := kc'.step e1 e2 hA kp2
        rw [set_mid dl e3] at st
        exact st
      · rw [← q1, drop_cons' e3, List.append_assoc]
        rfl
      · rw [← q2, drop_cons' e3]
        rfl
    · rintro σ H' ⟨v, ds, y, rfl, kp, dl, kc', q1, q2⟩
      refine ⟨_, rfl, ?_⟩
      have en : b.chips.drop (cs.map V.ref).length = [] := by rw [List.length_map, kc.len, List.drop_length]
      rw [en] at kc' q1 q2
      have q1' : ds ++ [] = (shC Kh264.Chip.dr putDr x b.chips).1 := q1
      have q2' : y = (shC Kh264.Chip.dr putDr x b.chips).2 := q2
      rw [q1'] at kc'
      rw [q2']
      exact k H' (hB0.chg kp kc') kp
/-! ### Board.shift_instructions -/
def spBShI (B C : Addr) : Sp := fun vs H Q _ => ∃ (bp : Addr) (cs abs : List Addr) (b : Kh264.Board) (x : Bool), vs = [.ref bp, .int (bi x)] ∧ BrdAt B C H bp cs abs b ∧ BoardWf b ∧
  ∀ H' : Hp, BrdAt B C H' bp cs abs { b with chips := (shC Kh264.Chip.ir putIr x b.chips).1 } → Keep (cs ++ abs) H H' → Q (.int (bi (shC Kh264.Chip.ir putIr x b.chips).2)) H'
theorem sc_bshI : FnScope ["self", "coming", "passing", "chip"] ["self", "coming"] (defScope (sB 6)) := ⟨rfl, rfl, rfl, by decide +kernel, rfl, by decide +kernel, by decide +kernel⟩
theorem ok_bshI {f B C g : Addr} (D : Def K "shift_instructions" "Board.shift_instructions" (sB 6) f ["self", "coming"]) (Y : BoardC K B) (YC : ChipC K C) (m : Meth K C "shift_instruction" g) (O : Ok P w K mg base 1 g ["self", "coming"] (spShI C)) : Ok P w K mg base 2 f ["self", "coming"] (spBShI B C) := by
  obtain ⟨fd, F, bnd⟩ := D
  refine ⟨fd, F.ok sc_bshI (fun vs H Q E h => ?_) (fun cdv A outer s H vs Q E hr h => ?_), bnd⟩
  · obtain ⟨bp, cs, abs, b, x, rfl, _⟩ := h
    rfl
  · obtain ⟨bp, cs, abs, b, x, rfl, hB, wf, k⟩ := h
    have hB0 := hB
    obtain ⟨⟨d, ac, aj, ah, hp, hc, hj, hh, z1, z2, z3⟩, kc⟩ := hB
    refine ⟨_, pss_cons (ps_set (i := 2) sc_bshI.nd rfl (Or.inl rfl) (pv 1)) (pss_cons (ps_for PassesOwn.never rfl (pi_list (pe_fld (pv 0) rfl)) (pg_name (i := 3) sc_bshI.nd rfl (Or.inl rfl))
      (pss_one (ps_set (i := 2) sc_bshI.nd rfl (Or.inl rfl) (pmeth (pv 3) YC.cl m O hr pass0 (pa_cons (pv 2) pa_nil))))) (pss_one (ps_ret (pv 2)))), ?_⟩
    have nac : ac ∉ cs ++ abs := hB0.nlist hc z1
    refine ⟨_, rfl, _, rfl, bp, B, d, _, _, rfl, hp, Y.cl, Y.nC, bk_c .., ac, rfl, ⟨_, SqL.of hc⟩, for_list (K := K) (a := ac) (xs := cs.map V.ref) (fun i σ H' => ∃ (v : Option V) (ds : List Kh264.Chip) (y : Bool), σ = [some (.ref bp), some (.int (bi x)), some (.int (bi y)), v] ∧ Keep (cs ++ abs) H H' ∧ ds.length = i ∧
        ChipsAt C H' cs abs (ds ++ b.chips.drop i) ∧ ds ++ (shC Kh264.Chip.ir putIr y (b.chips.drop i)).1 = (shC Kh264.Chip.ir putIr x b.chips).1 ∧ (shC Kh264.Chip.ir putIr y (b.chips.drop i)).2 = (shC Kh264.Chip.ir putIr x b.chips).2)
      ⟨none, [], x, rfl, Keep.refl _ _, rfl, kc, rfl, rfl⟩ ?_ ?_ ?_⟩
    · rintro i σ H' _ ⟨v, ds, y, _, kp, _⟩
      exact SqL.of (kp _ _ hc nac)
    · rintro i x0 σ H' hx ⟨v, ds, y, rfl, kp, dl, kc', q1, q2⟩
      obtain ⟨il, ic⟩ := len_ref kc.len hx
      obtain ⟨p, ab, c, e1, e2, e3, ka⟩ := kc'.ref ic
      rw [List.getElem?_map, e1] at hx
      have ex : x0 = V.ref p := (Option.some.inj hx).symm
      subst ex
      rw [get_mid dl] at e3
      have wc := wf.chips c (List.mem_of_getElem? e3)
      obtain ⟨dx, an, ad, adt, ai, cp, _⟩ := ka.ex
      refine ⟨_, rfl, p, dx, _, rfl, cp, lk_m8 .., _, rfl, p, ab, y, c, abs, rfl, ka, (by have := wc.irl; have := wc.ir2; omega), (by have := wc.irl; have := wc.ir32; omega), kc'.nz, fun H2 hA kp2 => ?_⟩
      refine ⟨_, ds ++ [putIr c (c.ir.drop 1 ++ [y])], c.ir.headD false, rfl, kp.trans (ChipsAt.pair e1 e2 kp2), by simp [dl], ?_, ?_, ?_⟩
      · have st := kc'.step e1 e2 hA kp2
        rw [set_mid dl e3] at st
        exact st
      · rw [← q1, drop_cons' e3, List.append_assoc]
        rfl
      · rw [← q2, drop_cons' e3]
        rfl
    · rintro σ H' ⟨v, ds, y, rfl, kp, dl, kc', q1, q2⟩
      refine ⟨_, rfl, ?_⟩
      have en : b.chips.drop (cs.map V.ref).length = [] := by rw [List.length_map, kc.len, List.drop_length]
      rw [en] at kc' q1 q2
      have q1' : ds ++ [] = (shC Kh264.Chip.ir putIr x b.chips).1 := q1
      have q2' : y = (shC Kh264.Chip.ir putIr x b.chips).2 := q2
      rw [q1'] at kc'
      rw [q2']
      exact k H' (hB0.chg kp kc') kp
/-! ### Board.act_on_each_chip -/
def actF (s : Nat) (c : Kh264.Chip) : Kh264.Chip := if s = 0 then Kh264.reset c else if s = 8 then setBits c else if s = 10 then takeIr c else if s = 15 then setIr c else c
def spAct (B C : Addr) : Sp := fun vs H Q _ => ∃ (bp : Addr) (cs abs : List Addr) (b : Kh264.Board), vs = [.ref bp] ∧ BrdAt B C H bp cs abs b ∧ BoardWf b ∧ ∀ H' : Hp, BrdAt B C H' bp cs abs { b with chips := b.chips.map (actF b.state) } → Keep (cs ++ abs) H H' → Q .non H'
theorem sc_act : FnScope ["self", "chip"] ["self"] (defScope (sB 3)) := ⟨rfl, rfl, rfl, by decide +kernel, rfl, by decide +kernel, by decide +kernel⟩
theorem ok_act {f B C g1 g2 g3 g4 : Addr} (D : Def K "act_on_each_chip" "Board.act_on_each_chip" (sB 3) f ["self"]) (T : Glb mg) (Y : BoardC K B) (YC : ChipC K C) (m1 : Meth K C "reset" g1) (O1 : Ok P w K mg base 2 g1 ["self"] (spReset C))
    (m2 : Meth K C "set_data" g2) (O2 : Ok P w K mg base 1 g2 ["self"] (spSetD C)) (m3 : Meth K C "take_instruction" g3) (O3 : Ok P w K mg base 2 g3 ["self"] (spTakeI C)) (m4 : Meth K C "set_instruction" g4) (O4 : Ok P w K mg base 2 g4 ["self"] (spSetI C)) :
    Ok P w K mg base 3 f ["self"] (spAct B C) := by
  obtain ⟨fd, F, bnd⟩ := D
  refine ⟨fd, F.ok sc_act (fun vs H Q E h => ?_) (fun cdv A outer s H vs Q E hr h => ?_), bnd⟩
  · obtain ⟨bp, cs, abs, b, rfl, _⟩ := h
    rfl
  · obtain ⟨bp, cs, abs, b, rfl, hB, wf, k⟩ := h
    have hr1 : Room 1 _ := hr.mono (by decide)
    have hB0 := hB
    obtain ⟨⟨d, ac, aj, ah, hp, hc, hj, hh, z1, z2, z3⟩, kc⟩ := hB
    refine ⟨_, pss_one (ps_for PassesOwn.never rfl (pi_list (pe_fld (pv 0) rfl)) (pg_name (i := 1) sc_act.nd rfl (Or.inl rfl))
      (pss_one (ps_if (pt_cmpR op_eq (pe_fld (pv 0) rfl) (pgi T.reset) (nomark _)) (pss_one (ps_expr (pmeth0 (pv 1) YC.cl m1 O1 hr pass0)))
        (pss_one (ps_if (pt_cmpR op_eq (pe_fld (pv 0) rfl) (pgi T.setD) (nomark _)) (pss_one (ps_expr (pmeth0 (pv 1) YC.cl m2 O2 hr1 pass0)))
          (pss_one (ps_if (pt_cmpR op_eq (pe_fld (pv 0) rfl) (pgi T.takeI) (nomark _)) (pss_one (ps_expr (pmeth0 (pv 1) YC.cl m3 O3 hr pass0)))
            (pss_one (ps_if (pt_cmpR op_eq (pe_fld (pv 0) rfl) (pgi T.setI) (nomark _)) (pss_one (ps_expr (pmeth0 (pv 1) YC.cl m4 O4 hr pass0))) pss_nil))))))))), ?_⟩
    have nac : ac ∉ cs ++ abs := hB0.nlist hc z1
    have nbp := hB0.nmem
    refine ⟨_, rfl, bp, B, d, _, _, rfl, hp, Y.cl, Y.nC, bk_c .., ac, rfl, ⟨_, SqL.of hc⟩, for_list (K := K) (a := ac) (xs := cs.map V.ref) (fun i σ H' => (∃ v : Option V, σ = [some (.ref bp), v]) ∧ Keep (cs ++ abs) H H' ∧ ChipsAt C H' cs abs ((b.chips.take i).map (actF b.state) ++ b.chips.drop i))
      ⟨⟨none, rfl⟩, Keep.refl _ _, kc⟩ ?_ ?_ ?_⟩
    · rintro i σ H' _ ⟨_, kp, _⟩
      exact SqL.of (kp _ _ hc nac)
    · rintro i x σ H' hx ⟨⟨v, rfl⟩, kp, kc'⟩
      obtain ⟨il, ic⟩ := len_ref kc.len hx
      obtain ⟨p, ab, c, e1, e2, e3, ka⟩ := kc'.ref ic
      rw [List.getElem?_map, e1] at hx
      have ex : x = V.ref p := (Option.some.inj hx).symm
      subst ex
      rw [mix_get _ il] at e3
      have wc := wf.chips c (List.mem_of_getElem? e3)
      have w32 := wc.ir32
      obtain ⟨dx, an, ad, adt, ai, cp, _⟩ := ka.ex
      have hp' := kp _ _ hp nbp
      have fin : ∀ (H2 : Hp) (c' : Kh264.Chip), c' = actF b.state c → ChipAt C abs H2 p ab c' → Keep [p, ab] H' H2 → Keep (cs ++ abs) H H2 ∧ ChipsAt C H2 cs abs ((b.chips.take (i + 1)).map (actF b.state) ++ b.chips.drop (i + 1)) := fun H2 c' ec hA kp2 => by
        refine ⟨kp.trans (ChipsAt.pair e1 e2 kp2), ?_⟩
        have st := kc'.step e1 e2 hA kp2
        rw [ec, mix_step (actF b.state) e3] at st
        exact st
      refine ⟨_, rfl, bp, B, d, _, _, rfl, hp', Y.cl, Y.nS, bk_s .., rfl, _, rfl, ?_⟩
      refine iteI (fun e => ?_) (fun n0 => ?_)
      · refine ⟨_, rfl, p, dx, _, rfl, cp, lk_m2 .., p, ab, c, abs, rfl, ka, by omega, fun H2 hA kp2 => ⟨⟨_, rfl⟩, fin H2 _ ?_ hA kp2⟩⟩
        unfold actF
        rw [if_pos (by omega)]
      refine ⟨_, rfl, bp, B, d, _, _, rfl, hp', Y.cl, Y.nS, bk_s .., rfl, _, rfl, ?_⟩
      refine iteI (fun e => ?_) (fun n8 => ?_)
      · have es : b.state = 8 := by omega
        refine ⟨_, rfl, p, dx, _, rfl, cp, lk_m6 .., p, ab, c, abs, b.nets, rfl, ka, List.mem_of_getElem? e2, wc, wf.mid (by omega) (by omega) c (List.mem_of_getElem? e3), fun H2 hA kp2 => ⟨⟨_, rfl⟩, fin H2 _ ?_ hA kp2⟩⟩
        unfold actF
        rw [if_neg (by omega), if_pos es]
      refine ⟨_, rfl, bp, B, d, _, _, rfl, hp', Y.cl, Y.nS, bk_s .., rfl, _, rfl, ?_⟩
      refine iteI (fun e => ?_) (fun n10 => ?_)
      · refine ⟨_, rfl, p, dx, _, rfl, cp, lk_m7 .., p, ab, c, abs, rfl, ka, by omega, kc'.nz, fun H2 hA kp2 => ⟨⟨_, rfl⟩, fin H2 _ ?_ hA kp2⟩⟩
        unfold actF
        rw [if_neg (by omega), if_neg (by omega), if_pos (by omega)]
      refine ⟨_, rfl, bp, B, d, _, _, rfl, hp', Y.cl, Y.nS, bk_s .., rfl, _, rfl, ?_⟩
      refine iteI (fun e => ?_) (fun n15 => ?_)
      · refine ⟨_, rfl, p, dx, _, rfl, cp, lk_m9 .., p, ab, c, abs, rfl, ka, fun H2 hA kp2 => ⟨⟨_, rfl⟩, fin H2 _ ?_ hA kp2⟩⟩
        unfold actF
        rw [if_neg (by omega), if_neg (by omega), if_neg (by omega), if_pos (by omega)]
      · refine ⟨⟨_, rfl⟩, fin H' c ?_ ka (Keep.refl _ _)⟩
        unfold actF
        rw [if_neg (by omega), if_neg (by omega), if_neg (by omega), if_neg (by omega)]
    · rintro σ H' ⟨⟨v, rfl⟩, kp, kc'⟩
      rw [mix_end _ (by rw [List.length_map]; exact kc.len)] at kc'
      exact k H' (hB0.chg kp kc') kp
/-! ### Board.clock -/
theorem act_state (b : Kh264.Board) (x : Bool) : (Kh264.act b x).1.state = b.state := by
  unfold Kh264.act
  split <;> rfl
theorem act_rest {b : Kh264.Board} {x : Bool} (h3 : b.state ≠ 3) (h4 : b.state ≠ 4) (h11 : b.state ≠ 11) : Kh264.act b x = ({ b with chips := b.chips.map (actF b.state) }, true) := by
  by_cases h0 : b.state = 0
  · rw [act0 h0]
    have e : actF b.state = Kh264.reset := by funext c; unfold actF; rw [if_pos h0]
    rw [e]
  by_cases h8 : b.state = 8
  · rw [act8 h8]
    have e : actF b.state = setBits := by funext c; unfold actF; rw [if_neg h0, if_pos h8]
    rw [e]
  by_cases h10 : b.state = 10
  · rw [act10 h10]
    have e : actF b.state = takeIr := by funext c; unfold actF; rw [if_neg h0, if_neg h8, if_pos h10]
    rw [e]
  by_cases h15 : b.state = 15
  · rw [act15 h15]
    have e : actF b.state = setIr := by funext c; unfold actF; rw [if_neg h0, if_neg h8, if_neg h10, if_pos h15]
    rw [e]
  · rw [act_else h0 h3 h10 h4 h11 h8 h15]
    have e : actF b.state = id := by funext c; unfold actF; rw [if_neg h0, if_neg h8, if_neg h10, if_neg h15]; rfl
    rw [e, List.map_id]
def spClock (B C : Addr) : Sp := fun vs H Q _ => ∃ (bp : Addr) (cs abs : List Addr) (b : Kh264.Board) (m x : Nat), vs = [.ref bp, .int m, .int x] ∧ BrdAt B C H bp cs abs b ∧ BoardWf b ∧ (1 < m ∨ 1 < x → Q (.int (-22)) H) ∧
  (m ≤ 1 → x ≤ 1 → ∀ H' : Hp, BrdAt B C H' bp cs abs (Kh264.clock b (m == 1) (x == 1)).1 → Keep (bp :: (cs ++ abs)) H H' → Q (.int (bi (Kh264.clock b (m == 1) (x == 1)).2)) H')
theorem sc_clock : FnScope ["self", "mode", "coming", "answer"] ["self", "mode", "coming"] (defScope (sB 2)) := ⟨rfl, rfl, rfl, by decide +kernel, rfl, by decide +kernel, by decide +kernel⟩
theorem at_pair {a b m : Nat} (h : m ≤ 1) : atI [V.int (a : Int), V.int (b : Int)] (m : Int) = some (V.int ((if (m == 1) = true then b else a : Nat) : Int)) := by
  have : m = 0 ∨ m = 1 := by omega
  rcases this with e | e <;> subst e <;> rfl
theorem ok_clock {f B C nx g1 g2 g3 g4 : Addr} (D : Def K "clock" "Board.clock" (sB 2) f ["self", "mode", "coming"]) (T : Glb mg) (Y : BoardC K B) (mN : mg "NEXT_STATES" = some (.ref nx)) (tab : Tab K nx)
    (m1 : Meth K B "shift_data" g1) (O1 : Ok P w K mg base 2 g1 ["self", "coming"] (spBShD B C)) (m2 : Meth K B "shift_instructions" g2) (O2 : Ok P w K mg base 2 g2 ["self", "coming"] (spBShI B C))
    (m3 : Meth K B "take_data" g3) (O3 : Ok P w K mg base 3 g3 ["self"] (spBTake B C)) (m4 : Meth K B "act_on_each_chip" g4) (O4 : Ok P w K mg base 3 g4 ["self"] (spAct B C)) :
    Ok P w K mg base 4 f ["self", "mode", "coming"] (spClock B C) := by
  obtain ⟨fd, F, bnd⟩ := D
  refine ⟨fd, F.ok sc_clock (fun vs H Q E h => ?_) (fun cdv A outer s H vs Q E hr h => ?_), bnd⟩
  · obtain ⟨bp, cs, abs, b, m, x, rfl, _⟩ := h
    rfl
  · obtain ⟨bp, cs, abs, b, m, x, rfl, hB, wf, kF, kT⟩ := h
    have hr2 : Room 2 _ := hr.mono (by decide)
    have hB0 := hB
    obtain ⟨⟨d, ac, aj, ah, hp, hc, hj, hh, z1, z2, z3⟩, kc⟩ := hB
    obtain ⟨as, hlen, tq, tp⟩ := tab.ex
    refine ⟨_, pss_cons (ps_if (pw_or (pt_cmpR op_gt (pv 1) pe_int (nomark _)) (pw_or1 (pt_cmpR op_gt (pv 2) pe_int (nomark _)))).pt (pss_one (ps_ret (pgi T.refused))) pss_nil)
      (pss_cons (ps_set (i := 3) sc_clock.nd rfl (Or.inl rfl) pe_int)
      (pss_cons (ps_if (pt_cmpR op_eq (pe_fld (pv 0) rfl) (pgi T.shiftD) (nomark _)) (pss_one (ps_set (i := 3) sc_clock.nd rfl (Or.inl rfl) (pmeth (pv 0) Y.cl m1 O1 hr2 pass0 (pa_cons (pv 2) pa_nil))))
        (pss_one (ps_if (pt_cmpR op_eq (pe_fld (pv 0) rfl) (pgi T.shiftI) (nomark _)) (pss_one (ps_set (i := 3) sc_clock.nd rfl (Or.inl rfl) (pmeth (pv 0) Y.cl m2 O2 hr2 pass0 (pa_cons (pv 2) pa_nil))))
          (pss_one (ps_if (pt_cmpR op_eq (pe_fld (pv 0) rfl) (pgi T.takeD) (nomark _)) (pss_one (ps_expr (pmeth0 (pv 0) Y.cl m3 O3 hr pass0)))
            (pss_one (ps_expr (pmeth0 (pv 0) Y.cl m4 O4 hr pass0))))))))
      (pss_cons (ps_fld (pv 0) (pe_ix ix_tup (pe_ix ix_tup (pe_glob (v := V.ref nx) (by rfl) mN (by rfl)) (pe_fld (pv 0) rfl) (fun _ _ => rfl)) (pv 1) (fun _ _ => rfl)) rfl)
      (pss_one (ps_ret (pv 3)))))), ?_⟩
    refine ⟨_, rfl, _, _, rfl, rfl, _, rfl, ?_⟩
    refine iteD (fun h => ?_) (fun hm => ?_)
    · exact kF (.inl (by omega))
    refine ⟨_, rfl, _, _, rfl, rfl, _, rfl, ?_⟩
    refine iteD (fun h => ?_) (fun hx => ?_)
    · exact kF (.inr (by omega))
    have m1' : m ≤ 1 := by omega
    have x1' : x ≤ 1 := by omega
    have k := kT m1' x1'
    have exb : (x : Int) = bi (x == 1) := by
      have : x = 0 ∨ x = 1 := by omega
      rcases this with e | e <;> subst e <;> rfl
    generalize hxb : (x == 1) = xb at k exb
    -- the state, the answer
    have tail : ∀ (H1 : Hp) (out : Bool), (Kh264.act b xb).2 = out → BrdAt B C H1 bp cs abs (Kh264.act b xb).1 → Keep (cs ++ abs) H H1 →
        tSeq (sFld K (tVar 0) (tOp (rIxT K) (tOp (rIxT K) (tC (.ref nx)) (tFld K (tVar 0) "state")) (tVar 1)) "state") (tRet (tVar 3)) { nx := fun _ H' => Q .non H', rt := Q } [some (.ref bp), some (.int m), some (.int x), some (.int (bi out))] H1 := fun H1 out eo b1 kp => by
      have b10 := b1
      obtain ⟨⟨d', ac', aj', ah', hp1, hc1, hj1, hh1, y1, y2, y3⟩, kc1⟩ := b1
      rw [act_state] at hp1
      obtain ⟨na, nb, etab⟩ := next_tab b.state wf.st
      obtain ⟨pp, epp, sqp⟩ := tp b.state na nb etab
      have eref : (as.map V.ref)[b.state]? = some (V.ref pp) := by rw [List.getElem?_map, epp]; rfl
      refine ⟨_, rfl, bp, B, d', _, _, rfl, hp1, Y.cl, Y.nS, bk_s .., nx, _, _, _, rfl, rfl, tq H1, atI_nat eref, _, rfl, pp, _, _, _, rfl, rfl, sqp H1, at_pair m1', ?_⟩
      refine ⟨_, rfl, bp, B, d', _, rfl, hp1, Y.cl, Y.nS, (by show 4 < 1000; decide), ?_⟩
      rw [bp_s, ← next_eq b.state (m == 1) etab]
      have kp2 : Keep [bp] H1 (upd H1 bp (.ins B d' (bfl (Kh264.nextState b.state (m == 1)) ac' aj' ah'))) := (Keep.refl _ _).upd (by simp)
      have p2 : (upd H1 bp (.ins B d' (bfl (Kh264.nextState b.state (m == 1)) ac' aj' ah'))) bp = some (.ins B d' (bfl (Kh264.nextState b.state (m == 1)) ac' aj' ah')) := upd_same
      generalize upd H1 bp (.ins B d' (bfl (Kh264.nextState b.state (m == 1)) ac' aj' ah')) = H2 at kp2 p2 ⊢
      refine ⟨_, rfl, ?_⟩
      have nl : ∀ {a : Addr} {xs : List V}, H1 a = some (.lst xs) → a ∉ [bp] := fun {a xs} ha mm => ne_lst_ins ha hp1 (List.mem_singleton.mp mm)
      have nbc : bp ∉ cs := fun mm => b10.nmem (List.mem_append_left _ mm)
      have bf : BrdAt B C H2 bp cs abs (Kh264.clock b (m == 1) xb).1 := ⟨⟨d', ac', aj', ah', p2, kp2 _ _ hc1 (nl hc1), kp2 _ _ hj1 (nl hj1), kp2 _ _ hh1 (nl hh1), y1, y2, y3⟩, kc1.keepI hp1 nbc kp2⟩
      have eo2 : (Kh264.clock b (m == 1) xb).2 = out := eo
      have q := k H2 bf fun a o e n => kp2 a o (kp a o e fun z => n (List.mem_cons_of_mem _ z)) fun z => n (by rw [List.mem_singleton.mp z]; exact List.mem_cons_self)
      rw [eo2] at q
      exact q
    refine ⟨_, rfl, bp, B, d, _, _, rfl, hp, Y.cl, Y.nS, bk_s .., rfl, _, rfl, ?_⟩
    refine iteI (fun e => ?_) (fun n4 => ?_)
    · refine ⟨_, rfl, bp, d, _, rfl, hp, bk_m5 .., _, rfl, bp, cs, abs, b, xb, ?_, hB0, wf, fun H1 b1 kp => ?_⟩
      · show [V.ref bp, V.int (x : Int)] = _
        rw [exb]
      · have ea := act4 (x := xb) (show b.state = 4 by omega)
        refine tail H1 _ (by rw [ea]) ?_ kp
        rw [ea]; exact b1
    refine ⟨_, rfl, bp, B, d, _, _, rfl, hp, Y.cl, Y.nS, bk_s .., rfl, _, rfl, ?_⟩
    refine iteI (fun e => ?_) (fun n11 => ?_)
    · refine ⟨_, rfl, bp, d, _, rfl, hp, bk_m6 .., _, rfl, bp, cs, abs, b, xb, ?_, hB0, wf, fun H1 b1 kp => ?_⟩
      · show [V.ref bp, V.int (x : Int)] = _
        rw [exb]
      · have ea := act11 (x := xb) (show b.state = 11 by omega)
        refine tail H1 _ (by rw [ea]) ?_ kp
        rw [ea]; exact b1
    refine ⟨_, rfl, bp, B, d, _, _, rfl, hp, Y.cl, Y.nS, bk_s .., rfl, _, rfl, ?_⟩
    refine iteI (fun e => ?_) (fun n3 => ?_)
    · refine ⟨_, rfl, bp, d, _, rfl, hp, bk_m4 .., bp, cs, abs, b, rfl, hB0, wf, fun H1 b1 kp => ?_⟩
      have ea := act3 (x := xb) (show b.state = 3 by omega)
      refine tail H1 true (by rw [ea]) ?_ kp
      rw [ea]; exact b1
    · refine ⟨_, rfl, bp, d, _, rfl, hp, bk_m3 .., bp, cs, abs, b, rfl, hB0, wf, fun H1 b1 kp => ?_⟩
      have ea := act_rest (b := b) (x := xb) (fun z => n3 (by rw [z]; rfl)) (fun z => n4 (by rw [z]; rfl)) (fun z => n11 (by rw [z]; rfl))
      refine tail H1 true (by rw [ea]) ?_ kp
      rw [ea]; exact b1
end
end Cc

end

section
set_option Elab.async false
set_option linter.all false
set_option maxRecDepth 100000
set_option maxHeartbeats 4000000
namespace Cc
open PySem PySem.Spec PyProof.Rows L2
structure ReadC (K : PySem.W.Frag) (R : Addr) : Prop where
  cl : Cls K R
  nC : NoAttr K R "calls"
  nP : NoAttr K R "place"
section
variable (a : Addr) (n : Nat)
theorem rk_c : (rfl' a n).lookup ("calls" : Str) = some (.ref a) := by kernel_rfl
theorem rk_p : (rfl' a n).lookup ("place" : Str) = some (.int n) := by kernel_rfl
theorem rk_m1 : (rfl' a n).lookup ("at_end" : Str) = none := by kernel_rfl
theorem rk_m2 : (rfl' a n).lookup ("take_number" : Str) = none := by kernel_rfl
theorem rk_m3 : (rfl' a n).lookup ("take_row" : Str) = none := by kernel_rfl
theorem rp_p (k : Nat) : putF "place" (.int k) (rfl' a n) = rfl' a k := by kernel_rfl
theorem ri_1 : putF "calls" (.ref a) [] = [(("calls" : Str), V.ref a)] := by kernel_rfl
theorem ri_2 : putF "place" (.int (0 : Nat)) [(("calls" : Str), V.ref a)] = rfl' a 0 := by kernel_rfl
end
/-- the list of calls: it is the request's, nothing writes to it -/
def CallsAt (K : PySem.W.Frag) (H : Hp) (a : Addr) (xs : List V) : Prop := (∃ o, H a = some (.frz o (.lst xs))) ∨
  ∃ (o : Obj) (its : Array Value) (n : Nat), K.lookup a = some o ∧ o.cls = .type "list" ∧ o.dict = none ∧ o.data = .seq its n ∧ its.size ≤ sizeLine ∧ Vals xs its.toList
def Frzd (H H' : Hp) : Prop := ∀ x o u, H x = some (.frz o u) → H' x = some (.frz o u)
section
variable {K : PySem.W.Frag} {H H' H1 : Hp} {a rp bp R B C dR : Addr} {xs : List V} {n : Nat} {M : List Addr}
theorem CallsAt.sq (k : CallsAt K H a xs) : SqL K H a xs := by
  rcases k with k | k
  · exact .inl (.inr k)
  · exact .inr k
theorem CallsAt.frz (k : CallsAt K H a xs) (f : Frzd H H') : CallsAt K H' a xs := by
  rcases k with ⟨o, k⟩ | k
  · exact .inl ⟨o, f _ _ _ k⟩
  · exact .inr k
theorem Frzd.refl (H : Hp) : Frzd H H := fun _ _ _ h => h
theorem Frzd.trans (f : Frzd H H1) (g : Frzd H1 H') : Frzd H H' := fun x o u h => g x o u (f x o u h)
theorem Frzd.of_same (s : Same H H') : Frzd H H' := fun x o u h => s _ _ h
theorem Frzd.of_keep (k : Keep M H H') (h : ∀ m ∈ M, (∃ xs, H m = some (.lst xs)) ∨ ∃ C d fs, H m = some (.ins C d fs)) : Frzd H H' := fun x o u e => k x _ e fun m => by
  rcases h x m with ⟨xs, z⟩ | ⟨C, d, fs, z⟩
  · rw [e] at z; cases z
  · rw [e] at z; cases z
theorem Frzd.one {C d : Addr} {fs : List (Str × V)} (k : Keep [rp] H H') (h : H rp = some (.ins C d fs)) : Frzd H H' := .of_keep k fun m hm => .inr ⟨C, d, fs, by rw [List.mem_singleton.mp hm]; exact h⟩
end
section
variable {P : Program} {w : World} {K : PySem.W.Frag} {mg : Str → Option Value} {base : Heap}
/-! ### Reader -/
def spRInit (R : Addr) : Sp := fun vs H Q _ => ∃ (p d a : Addr), vs = [.ref p, .ref a] ∧ H p = some (.ins R d []) ∧ ∀ H' : Hp, H' p = some (.ins R d (rfl' a 0)) → Keep [p] H H' → Q .non H'
theorem sc_rinit : FnScope ["self", "calls"] ["self", "calls"] (defScope (sR 0)) := ⟨rfl, rfl, rfl, by decide +kernel, rfl, by decide +kernel, by decide +kernel⟩
theorem ok_rinit {f R : Addr} (D : Def K "__init__" "Reader.__init__" (sR 0) f ["self", "calls"]) (Y : ReadC K R) : Ok P w K mg base 1 f ["self", "calls"] (spRInit R) := by
  obtain ⟨fd, F, bnd⟩ := D
  refine ⟨fd, F.ok sc_rinit (fun vs H Q E h => ?_) (fun cdv A outer s H vs Q E hr h => ?_), bnd⟩
  · obtain ⟨p, d, a, rfl, _⟩ := h
    rfl
  · obtain ⟨p, d, a, rfl, hp, k⟩ := h
    refine ⟨_, pss_cons (ps_fld (pv 0) (pv 1) rfl) (pss_one (ps_fld (pv 0) pe_int rfl)), ?_⟩
    refine ⟨_, rfl, _, rfl, p, R, d, [], rfl, hp, Y.cl, Y.nC, (by show 0 < 1000; decide), ?_⟩
    rw [ri_1]
    refine ⟨_, rfl, p, R, d, _, rfl, upd_same, Y.cl, Y.nP, (by show 1 < 1000; decide), ?_⟩
    refine k _ ?_ (((Keep.refl _ H).upd (by simp)).upd (by simp))
    rw [upd_same]
    exact congrArg (fun z => some (HO.ins R d z)) (ri_2 a)
def spEnd (K : PySem.W.Frag) (R : Addr) : Sp := fun vs H Q _ => ∃ (p d a : Addr) (n : Nat) (l : List Int), vs = [.ref p] ∧ H p = some (.ins R d (rfl' a n)) ∧ SqL K H a (vi l) ∧ Q (.bl (decide (l.length ≤ n))) H
theorem sc_end : FnScope ["self"] ["self"] (defScope (sR 1)) := ⟨rfl, rfl, rfl, by decide +kernel, rfl, by decide +kernel, by decide +kernel⟩
theorem ok_end {f R : Addr} (D : Def K "at_end" "Reader.at_end" (sR 1) f ["self"]) (T : Glb mg) (Y : ReadC K R) : Ok P w K mg base 1 f ["self"] (spEnd K R) := by
  obtain ⟨fd, F, bnd⟩ := D
  refine ⟨fd, F.ok sc_end (fun vs H Q E h => ?_) (fun cdv A outer s H vs Q E hr h => ?_), bnd⟩
  · obtain ⟨p, d, a, n, l, rfl, _⟩ := h
    rfl
  · obtain ⟨p, d, a, n, l, rfl, hp, hs, k⟩ := h
    refine ⟨_, pss_one (ps_ret (pe_cmpR op_ge (pe_fld (pv 0) rfl) (pe_callB call_len_seq (by rfl) T.len PySem.boot_len (pa_cons (pe_fld (pv 0) rfl) pa_nil)) (nomark _))), ?_⟩
    refine ⟨_, rfl, p, R, d, _, _, rfl, hp, Y.cl, Y.nP, rk_p .., _, rfl, p, R, d, _, _, rfl, hp, Y.cl, Y.nC, rk_c .., a, _, rfl, .inl hs, _, _, rfl, rfl, ?_⟩
    have e : decide (((vi l).length : Int) ≤ (n : Int)) = decide (l.length ≤ n) := by
      rw [vi_len, Bool.eq_iff_iff]
      simp only [decide_eq_true_eq]
      omega
    show Q (.bl (decide (((vi l).length : Int) ≤ (n : Int)))) H
    rw [e]
    exact k
def spNumb (K : PySem.W.Frag) (R : Addr) : Sp := fun vs H Q _ => ∃ (p d a : Addr) (n : Nat) (l : List Int) (x : Int), vs = [.ref p] ∧ H p = some (.ins R d (rfl' a n)) ∧ CallsAt K H a (vi l) ∧ l[n]? = some x ∧
  ∀ H' : Hp, H' p = some (.ins R d (rfl' a (n + 1))) → Keep [p] H H' → Q (.int x) H'
theorem sc_numb : FnScope ["self"] ["self"] (defScope (sR 2)) := ⟨rfl, rfl, rfl, by decide +kernel, rfl, by decide +kernel, by decide +kernel⟩
theorem ok_numb {f R : Addr} (D : Def K "take_number" "Reader.take_number" (sR 2) f ["self"]) (Y : ReadC K R) : Ok P w K mg base 1 f ["self"] (spNumb K R) := by
  obtain ⟨fd, F, bnd⟩ := D
  refine ⟨fd, F.ok sc_numb (fun vs H Q E h => ?_) (fun cdv A outer s H vs Q E hr h => ?_), bnd⟩
  · obtain ⟨p, d, a, n, l, x, rfl, _⟩ := h
    rfl
  · obtain ⟨p, d, a, n, l, x, rfl, hp, hs, hx, k⟩ := h
    refine ⟨_, pss_cons (ps_fldaug (pv 0) pe_int in_add) (pss_one (ps_ret (pe_ix ix_list (pe_fld (pv 0) rfl) (pe_op op_sub (pe_fld (pv 0) rfl) pe_int) (fun _ _ => rfl)))), ?_⟩
    refine ⟨_, rfl, p, R, d, _, _, rfl, hp, Y.cl, Y.nP, rk_p .., _, _, rfl, rfl, d, _, hp, (by show 2 < 1000; decide), ?_⟩
    have e1 : (n : Int) + 1 = ((n + 1 : Nat) : Int) := by omega
    rw [e1, rp_p]
    have kp : Keep [p] H (upd H p (.ins R d (rfl' a (n + 1)))) := (Keep.refl _ H).upd (by simp)
    have p1 : (upd H p (.ins R d (rfl' a (n + 1)))) p = some (.ins R d (rfl' a (n + 1))) := upd_same
    generalize upd H p (.ins R d (rfl' a (n + 1))) = H1 at kp p1 ⊢
    have hs1 := hs.frz (Frzd.one kp hp)
    exact ⟨_, rfl, p, R, d, _, _, rfl, p1, Y.cl, Y.nC, rk_c .., _, rfl, p, R, d, _, _, rfl, p1, Y.cl, Y.nP, rk_p .., _, _, rfl, rfl, a, _, _, _, rfl, rfl, hs1.sq, at_of (j := n) (by omega) (vi_get hx), k H1 p1 kp⟩
def spRow (K : PySem.W.Frag) (R : Addr) : Sp := fun vs H Q _ => ∃ (p d a : Addr) (n : Nat) (l : List Int) (k : Nat), vs = [.ref p] ∧ H p = some (.ins R d (rfl' a n)) ∧ CallsAt K H a (vi l) ∧ l[n]? = some (k : Int) ∧ n + 1 + k ≤ l.length ∧
  ∀ (H' : Hp) (q : Addr), H q = none → H' q = some (.lst (vi ((l.drop (n + 1)).take k))) → H' p = some (.ins R d (rfl' a (n + 1 + k))) → Keep [p] H H' → Q (.ref q) H'
theorem sc_row : FnScope ["self", "first"] ["self"] (defScope (sR 3)) := ⟨rfl, rfl, rfl, by decide +kernel, rfl, by decide +kernel, by decide +kernel⟩
theorem cut_row {l : List Int} {n k : Nat} (h : n + k ≤ l.length) : cutV (vi l) (some ((n : Nat) : Int)) (some ((n + k : Nat) : Int)) = vi ((l.drop n).take k) := by
  unfold cutV
  rw [HT.sIx_nat, HT.sIx_nat, vi_len, Nat.min_eq_left h, Nat.min_eq_left (show n ≤ l.length by omega), Nat.add_sub_cancel_left]
  unfold vi
  rw [← List.map_drop, ← List.map_take]
theorem ok_row {f R : Addr} (D : Def K "take_row" "Reader.take_row" (sR 3) f ["self"]) (Y : ReadC K R) : Ok P w K mg base 1 f ["self"] (spRow K R) := by
  obtain ⟨fd, F, bnd⟩ := D
  refine ⟨fd, F.ok sc_row (fun vs H Q E h => ?_) (fun cdv A outer s H vs Q E hr h => ?_), bnd⟩
  · obtain ⟨p, d, a, n, l, k, rfl, _⟩ := h
    rfl
  · obtain ⟨p, d, a, n, l, kk, rfl, hp, hs, hx, hl, k⟩ := h
    refine ⟨_, pss_cons (ps_set (i := 1) sc_row.nd rfl (Or.inl rfl) (pe_op op_add (pe_fld (pv 0) rfl) pe_int))
      (pss_cons (ps_fld (pv 0) (pe_op op_add (pv 1) (pe_ix ix_list (pe_fld (pv 0) rfl) (pe_fld (pv 0) rfl) (fun _ _ => rfl))) rfl)
      (pss_one (ps_ret (pe_slice sl_list (pe_fld (pv 0) rfl) (po_some (pv 1)) (po_some (pe_fld (pv 0) rfl)))))), ?_⟩
    refine ⟨_, rfl, p, R, d, _, _, rfl, hp, Y.cl, Y.nP, rk_p .., _, _, rfl, rfl, ?_⟩
    have e1 : (n : Int) + 1 = ((n + 1 : Nat) : Int) := by omega
    dsimp only
    rw [e1]
    refine ⟨_, rfl, _, rfl, p, R, d, _, _, rfl, hp, Y.cl, Y.nC, rk_c .., _, rfl, p, R, d, _, _, rfl, hp, Y.cl, Y.nP, rk_p .., a, _, _, _, rfl, rfl, hs.sq, atI_nat (vi_get hx), _, _, rfl, rfl, ?_⟩
    refine ⟨_, rfl, p, R, d, _, rfl, hp, Y.cl, Y.nP, (by show 2 < 1000; decide), ?_⟩
    have e2 : ((n + 1 : Nat) : Int) + (kk : Int) = ((n + 1 + kk : Nat) : Int) := by omega
    dsimp only
    rw [e2, rp_p]
    have kp : Keep [p] H (upd H p (.ins R d (rfl' a (n + 1 + kk)))) := (Keep.refl _ H).upd (by simp)
    have p1 : (upd H p (.ins R d (rfl' a (n + 1 + kk)))) p = some (.ins R d (rfl' a (n + 1 + kk))) := upd_same
    generalize upd H p (.ins R d (rfl' a (n + 1 + kk))) = H1 at kp p1 ⊢
    have hs1 := hs.frz (Frzd.one kp hp)
    refine ⟨_, rfl, p, R, d, _, _, rfl, p1, Y.cl, Y.nC, rk_c .., _, rfl, _, rfl, _, rfl, p, R, d, _, _, rfl, p1, Y.cl, Y.nP, rk_p .., _, rfl, a, _, rfl, hs1.sq, fun q hq => ?_⟩
    rw [cut_row hl]
    exact k _ q (keep_none kp p1 hq) upd_same (by rw [upd_ne (ne_of_none p1 hq)]; exact p1) (kp.new (keep_none kp p1 hq))
end
end Cc

end

section
set_option Elab.async false
set_option linter.all false
set_option maxRecDepth 100000
set_option maxHeartbeats 4000000
namespace Cc
open PySem PySem.Spec PyProof.Rows L2
/-- the board of the specification's state -/
def StAt (B C : Addr) (H : Hp) (bp : Addr) : Kh264Neutral.S → Prop
  | none => ∃ d ac aj ah, H bp = some (.ins B d (bfl 0 ac aj ah))
  | some b => BoardWf b ∧ ∃ cs abs, BrdAt B C H bp cs abs b
section
variable {K : PySem.W.Frag} {H H' H1 : Hp} {a rp bp R B C dR q : Addr} {xs : List V} {n : Nat} {M : List Addr} {s : Kh264Neutral.S}
theorem StAt.obj (k : StAt B C H bp s) : ∃ d st ac aj ah, H bp = some (.ins B d (bfl st ac aj ah)) := by
  cases s with
  | none =>
    obtain ⟨d, ac, aj, ah, h⟩ := k
    exact ⟨d, 0, ac, aj, ah, h⟩
  | some b =>
    obtain ⟨_, cs, abs, ⟨d, ac, aj, ah, h, _⟩, _⟩ := k
    exact ⟨d, _, ac, aj, ah, h⟩
/-- the addresses of a board: none of them is M's -/
theorem BrdAt.off {cs abs : List Addr} {b : Kh264.Board} (k : BrdAt B C H bp cs abs b) (kp : Keep M H H') (h1 : ∀ d fs m, H m = some (.ins B d fs) → m = bp → m ∉ M) (h2 : ∀ d c an ad ab adt ai m, H m = some (.ins C d (cf c an ad ab adt ai)) → m ∉ M) (h3 : ∀ xs m, H m = some (.lst xs) → m ∉ M) : BrdAt B C H' bp cs abs b := by
  obtain ⟨⟨d, ac, aj, ah, e1, e2, e3, e4, z⟩, kc⟩ := k
  refine ⟨⟨d, ac, aj, ah, kp _ _ e1 (h1 _ _ _ e1 rfl), kp _ _ e2 (h3 _ _ e2), kp _ _ e3 (h3 _ _ e3), kp _ _ e4 (h3 _ _ e4), z⟩, kc.nd, kc.ndb, kc.len, kc.lenb, fun j p ab c f1 f2 f3 => ?_⟩
  obtain ⟨⟨dx, an, ad, adt, ai, y1, y2, y3, y4, y5, y⟩, y6⟩ := kc.at_ j p ab c f1 f2 f3
  exact ⟨⟨dx, an, ad, adt, ai, kp _ _ y1 (h2 _ _ _ _ _ _ _ _ y1), kp _ _ y2 (h3 _ _ y2), kp _ _ y3 (h3 _ _ y3), kp _ _ y4 (h3 _ _ y4), kp _ _ y5 (h3 _ _ y5), y⟩, kp _ _ y6 (h3 _ _ y6)⟩
/-- another object is written: the reader -/
theorem StAt.rdr (k : StAt B C H bp s) (hr : H rp = some (.ins R dR (rfl' a n))) (kp : Keep [rp] H H') : StAt B C H' bp s := by
  have key : ∀ {fs : List (Str × V)} {X d : Addr} {m : Addr}, H m = some (.ins X d fs) → fs ≠ rfl' a n → m ∉ [rp] := fun {fs X d m} h ne mm => by
    rw [List.mem_singleton.mp mm, hr] at h
    injection h with h
    injection h with _ _ h
    exact ne h.symm
  cases s with
  | none =>
    obtain ⟨d, ac, aj, ah, h⟩ := k
    exact ⟨d, ac, aj, ah, kp _ _ h (key h (bfl_ne_rfl _ _ _ _ _ _))⟩
  | some b =>
    obtain ⟨wf, cs, abs, kb⟩ := k
    obtain ⟨d0, ac0, aj0, ah0, h0, _⟩ := kb.ex
    refine ⟨wf, cs, abs, kb.off kp (fun d fs m h e => ?_) (fun d c an ad ab adt ai m h => key h (cf_ne_rfl _ _ _ _ _ _ _ _)) fun xs m h mm => ne_lst_ins h hr (List.mem_singleton.mp mm)⟩
    rw [e]
    exact key h0 (bfl_ne_rfl _ _ _ _ _ _)
/-- what is neither a list nor an instance is written -/
theorem StAt.oth {o : HO} (k : StAt B C H bp s) (hq : H q = some o) (n1 : ∀ xs, o ≠ .lst xs) (n2 : ∀ X d fs, o ≠ .ins X d fs) (kp : Keep [q] H H') : StAt B C H' bp s := by
  have key : ∀ {fs : List (Str × V)} {X d : Addr} {m : Addr}, H m = some (.ins X d fs) → m ∉ [q] := fun {fs X d m} h mm => by
    rw [List.mem_singleton.mp mm, hq] at h
    exact n2 _ _ _ (Option.some.inj h)
  cases s with
  | none =>
    obtain ⟨d, ac, aj, ah, h⟩ := k
    exact ⟨d, ac, aj, ah, kp _ _ h (key h)⟩
  | some b =>
    obtain ⟨wf, cs, abs, kb⟩ := k
    refine ⟨wf, cs, abs, kb.off kp (fun d fs m h e => key h) (fun d c an ad ab adt ai m h => key h) fun xs m h mm => ?_⟩
    rw [List.mem_singleton.mp mm, hq] at h
    exact n1 _ (Option.some.inj h)
theorem StAt.same (k : StAt B C H bp s) (sm : Same H H') : StAt B C H' bp s := by
  cases s with
  | none =>
    obtain ⟨d, ac, aj, ah, h⟩ := k
    exact ⟨d, ac, aj, ah, sm _ _ h⟩
  | some b =>
    obtain ⟨wf, cs, abs, kb⟩ := k
    exact ⟨wf, cs, abs, kb.same sm⟩
end
theorem drop_get {l t : List Int} {n : Nat} {x : Int} (h : l.drop n = x :: t) : l[n]? = some x ∧ l.drop (n + 1) = t ∧ n < l.length := by
  have h1 : (l.drop n)[0]? = some x := by rw [h]; rfl
  rw [List.getElem?_drop, Nat.add_zero] at h1
  refine ⟨h1, ?_, (List.getElem?_eq_some_iff.mp h1).1⟩
  have h2 := drop_cons' h1
  rw [h] at h2
  exact (List.cons.inj h2).2.symm
theorem row_get {l x t : List Int} {n : Nat} (h : PyFlat.row (l.drop n) = some (x, t)) : ∃ k : Nat, l[n]? = some (k : Int) ∧ n + 1 + k ≤ l.length ∧ (l.drop (n + 1)).take k = x ∧ l.drop (n + 1 + k) = t := by
  obtain ⟨m, r, e, h0, h1, hx, ht⟩ := row_inv h
  obtain ⟨g1, g2, g3⟩ := drop_get e
  refine ⟨m.toNat, by rw [g1, Int.toNat_of_nonneg h0], ?_, by rw [g2]; exact hx.symm, ?_⟩
  · have : r.length = l.length - (n + 1) := by rw [← g2, List.length_drop]
    omega
  · rw [ht, ← g2, List.drop_drop]
theorem vn_nats {l : List Int} (h : ∀ z ∈ l, 0 ≤ z) : vn (Kh264Neutral.nats l) = vi l := by
  unfold vn vi Kh264Neutral.nats
  rw [List.map_map]
  refine List.map_congr_left fun z hz => ?_
  show V.int ((z.toNat : Nat) : Int) = V.int z
  rw [Int.toNat_of_nonneg (h z hz)]
section
variable {P : Program} {w : World} {K : PySem.W.Frag} {mg : Str → Option Value} {base : Heap}
/-- what stands ahead of a call's numbers and behind the call -/
structure Wd (K : PySem.W.Frag) (B C R : Addr) (H : Hp) (bp rp dR a : Addr) (l : List Int) (s : Kh264Neutral.S) (n : Nat) : Prop where
  rd : H rp = some (.ins R dR (rfl' a n))
  cl : CallsAt K H a (vi l)
  st : StAt B C H bp s
theorem Wd.go {B C R : Addr} {H H' : Hp} {bp rp dR a : Addr} {l : List Int} {s : Kh264Neutral.S} {n n' : Nat} (k : Wd K B C R H bp rp dR a l s n) (h : H' rp = some (.ins R dR (rfl' a n'))) (kp : Keep [rp] H H') : Wd K B C R H' bp rp dR a l s n' :=
  ⟨h, k.cl.frz (Frzd.one kp k.rd), k.st.rdr k.rd kp⟩
def After (K : PySem.W.Frag) (B C R : Addr) (H : Hp) (bp rp dR a : Addr) (l t : List Int) (s : Kh264Neutral.S) (c : List (List Int)) (Q : VK) : Prop :=
  ∀ (H' : Hp) (n' : Nat) (v : Int), Wd K B C R H' bp rp dR a l (Kh264Neutral.step s c).1 n' → Frzd H H' → l.drop n' = t → (Kh264Neutral.step s c).2 = [v] → Q (.int v) H'
/-! ### answer_start -/
def spAS (K : PySem.W.Frag) (B C R : Addr) : Sp := fun vs H Q _ => ∃ (bp rp dR a : Addr) (l t l1 l2 l3 l4 ra rb rj rd : List Int) (s : Kh264Neutral.S) (n : Nat) (nn st : Int), vs = [.ref bp, .ref rp] ∧ Wd K B C R H bp rp dR a l s n ∧ l.length ≤ 50000 ∧ l.drop n = nn :: st :: l1 ∧
  PyFlat.row l1 = some (ra, l2) ∧ PyFlat.row l2 = some (rb, l3) ∧ PyFlat.row l3 = some (rj, l4) ∧ PyFlat.row l4 = some (rd, t) ∧ Kh264Neutral.asked1 [[0, nn, st], ra, rb, rj, rd] = true ∧ After K B C R H bp rp dR a l t s [[0, nn, st], ra, rb, rj, rd] Q
theorem sc_as : FnScope ["board", "reader", "nets", "state", "chips", "cells", "joined", "held"] ["board", "reader"] (defScope (top 35)) := ⟨rfl, rfl, rfl, by decide +kernel, rfl, by decide +kernel, by decide +kernel⟩
theorem ok_as {f B C R g1 g2 g3 : Addr} (D : Def K "answer_start" "answer_start" (top 35) f ["board", "reader"]) (Y : BoardC K B) (YR : ReadC K R) (m1 : Meth K R "take_number" g1) (O1 : Ok P w K mg base 1 g1 ["self"] (spNumb K R))
    (m2 : Meth K R "take_row" g2) (O2 : Ok P w K mg base 1 g2 ["self"] (spRow K R)) (m3 : Meth K B "start" g3) (O3 : Ok P w K mg base 5 g3 ["self", "nets", "state", "chips", "cells", "joined", "held"] (spStart B C)) :
    Ok P w K mg base 6 f ["board", "reader"] (spAS K B C R) := by
  obtain ⟨fd, F, bnd⟩ := D
  refine ⟨fd, F.ok sc_as (fun vs H Q E h => ?_) (fun cdv A outer s H vs Q E hr h => ?_), bnd⟩
  · obtain ⟨bp, rp, dR, a, l, t, l1, l2, l3, l4, ra, rb, rj, rd, s, n, nn, st, rfl, _⟩ := h
    rfl
  · obtain ⟨bp, rp, dR, a, l, t, l1, l2, l3, l4, ra, rb, rj, rd, s, n, nn, st, rfl, W, h31, hd, w1, w2, w3, w4, ask, k⟩ := h
    have hr1 : Room 1 _ := hr.mono (by decide)
    refine ⟨_, pss_cons (ps_set (i := 2) sc_as.nd rfl (Or.inl rfl) (pmeth0 (pv 1) YR.cl m1 O1 hr1 pass0)) (pss_cons (ps_set (i := 3) sc_as.nd rfl (Or.inl rfl) (pmeth0 (pv 1) YR.cl m1 O1 hr1 pass0))
      (pss_cons (ps_set (i := 4) sc_as.nd rfl (Or.inl rfl) (pmeth0 (pv 1) YR.cl m2 O2 hr1 pass0)) (pss_cons (ps_set (i := 5) sc_as.nd rfl (Or.inl rfl) (pmeth0 (pv 1) YR.cl m2 O2 hr1 pass0))
      (pss_cons (ps_set (i := 6) sc_as.nd rfl (Or.inl rfl) (pmeth0 (pv 1) YR.cl m2 O2 hr1 pass0)) (pss_cons (ps_set (i := 7) sc_as.nd rfl (Or.inl rfl) (pmeth0 (pv 1) YR.cl m2 O2 hr1 pass0))
      (pss_one (ps_ret (pmeth (pv 0) Y.cl m3 O3 hr pass0 (pa_cons (pv 2) (pa_cons (pv 3) (pa_cons (pv 4) (pa_cons (pv 5) (pa_cons (pv 6) (pa_cons (pv 7) pa_nil)))))))))))))), ?_⟩
    obtain ⟨x1, d1, _⟩ := drop_get hd
    refine ⟨_, rfl, rp, dR, _, rfl, W.rd, rk_m2 .., rp, dR, a, n, l, nn, rfl, W.rd, W.cl, x1, fun H1 p1 k1 => ?_⟩
    have W1 := W.go p1 k1
    obtain ⟨x2, d2, _⟩ := drop_get d1
    refine ⟨_, rfl, rp, dR, _, rfl, W1.rd, rk_m2 .., rp, dR, a, n + 1, l, st, rfl, W1.rd, W1.cl, x2, fun H2 p2 k2 => ?_⟩
    have W2 := W1.go p2 k2
    rw [← d2] at w1
    obtain ⟨c1, y1, b1, t1, d3⟩ := row_get w1
    refine ⟨_, rfl, rp, dR, _, rfl, W2.rd, rk_m3 .., rp, dR, a, n + 1 + 1, l, c1, rfl, W2.rd, W2.cl, y1, b1, fun H3 q1 n1 e1 p3 k3 => ?_⟩
    rw [t1] at e1
    have W3 := W2.go p3 k3
    rw [← d3] at w2
    obtain ⟨c2, y2, b2, t2, d4⟩ := row_get w2
    refine ⟨_, rfl, rp, dR, _, rfl, W3.rd, rk_m3 .., rp, dR, a, n + 1 + 1 + 1 + c1, l, c2, rfl, W3.rd, W3.cl, y2, b2, fun H4 q2 n2 e2 p4 k4 => ?_⟩
    rw [t2] at e2
    have W4 := W3.go p4 k4
    have nl : ∀ {G : Hp} {m : Nat} {x : Addr} {xs : List V}, G rp = some (.ins R dR (rfl' a m)) → G x = some (.lst xs) → x ∉ [rp] := fun {G m x xs} hg hx mm => ne_lst_ins hx hg (List.mem_singleton.mp mm)
    have e14 := k4 _ _ e1 (nl p3 e1)
    rw [← d4] at w3
    obtain ⟨c3, y3, b3, t3, d5⟩ := row_get w3
    refine ⟨_, rfl, rp, dR, _, rfl, W4.rd, rk_m3 .., rp, dR, a, n + 1 + 1 + 1 + c1 + 1 + c2, l, c3, rfl, W4.rd, W4.cl, y3, b3, fun H5 q3 n3 e3 p5 k5 => ?_⟩
    rw [t3] at e3
    have W5 := W4.go p5 k5
    have e15 := k5 _ _ e14 (nl p4 e14)
    have e25 := k5 _ _ e2 (nl p4 e2)
    rw [← d5] at w4
    obtain ⟨c4, y4, b4, t4, d6⟩ := row_get w4
    refine ⟨_, rfl, rp, dR, _, rfl, W5.rd, rk_m3 .., rp, dR, a, n + 1 + 1 + 1 + c1 + 1 + c2 + 1 + c3, l, c4, rfl, W5.rd, W5.cl, y4, b4, fun H6 q4 n4 e4 p6 k6 => ?_⟩
    rw [t4] at e4
    have W6 := W5.go p6 k6
    have e16 := k6 _ _ e15 (nl p5 e15)
    have e26 := k6 _ _ e25 (nl p5 e25)
    have e36 := k6 _ _ e3 (nl p5 e3)
    -- what is asked of a start
    have ask' : (Kh264Neutral.natural nn 32 && (Kh264Neutral.natural st 32 && (Kh264Neutral.fit ra rb && (decide ((rj.length : Int) = if nn ≤ 64 then nn else 0) && (decide (rd.length = rj.length) && (rj ++ rd).all (fun (z : Int) => Kh264Neutral.within z 0 255)))))) = true := ask
    simp only [Bool.and_eq_true, decide_eq_true_eq, List.all_eq_true] at ask'
    obtain ⟨a1, a2, a3, a4, a5, a6⟩ := ask'
    simp only [Kh264Neutral.natural, Bool.and_eq_true, decide_eq_true_eq] at a1 a2
    have pj : ∀ z ∈ rj, 0 ≤ z := fun z hz => by
      have q := a6 z (List.mem_append_left _ hz)
      simp only [Kh264Neutral.within, Bool.and_eq_true, decide_eq_true_eq] at q
      exact q.1
    have pd : ∀ z ∈ rd, 0 ≤ z := fun z hz => by
      have q := a6 z (List.mem_append_right _ hz)
      simp only [Kh264Neutral.within, Bool.and_eq_true, decide_eq_true_eq] at q
      exact q.1
    obtain ⟨ms, f1, f2, f3, f4, f5⟩ := fit_read a3
    have en : ((Kh264Neutral.nat nn : Nat) : Int) = nn := Int.toNat_of_nonneg a1.1
    have es : ((Kh264Neutral.nat st : Nat) : Int) = st := Int.toNat_of_nonneg a2.1
    have ljn : (Kh264Neutral.nats rj).length = rj.length := List.length_map _
    have ldn : (Kh264Neutral.nats rd).length = rd.length := List.length_map _
    have hl : Kh264Neutral.nat nn ≤ 64 → (Kh264Neutral.nats rj).length = Kh264Neutral.nat nn ∧ (Kh264Neutral.nats rd).length = Kh264Neutral.nat nn := fun h => by
      rw [if_pos (by omega)] at a4
      rw [ljn, ldn]
      omega
    have hfl : (ms.flatMap fun c => c.cells).length ≤ 50000 := by
      have q : (cellsI (ms.flatMap fun c => c.cells)).length = rb.length := by rw [← allI_cells, f3]
      rw [cellsI_len] at q
      have q2 : rb.length ≤ l.length := by
        rw [← t2, List.length_take, List.length_drop]; omega
      omega
    have stp := step_start (s := s) (n := nn) (st := st) (j := rj) (d := rd) f1
    obtain ⟨d0, st0, ac, aj, ah, hbp⟩ := W6.st.obj
    have fz : Frzd H H6 := (((((Frzd.one k1 W.rd).trans (Frzd.one k2 W1.rd)).trans (Frzd.one k3 W2.rd)).trans (Frzd.one k4 W3.rd)).trans (Frzd.one k5 W4.rd)).trans (Frzd.one k6 W5.rd)
    have dr : l.drop (n + 1 + 1 + 1 + c1 + 1 + c2 + 1 + c3 + 1 + c4) = t := d6
    refine ⟨_, rfl, bp, d0, _, rfl, hbp, bk_m1 .., _, rfl, _, rfl, _, rfl, _, rfl, _, rfl, _, rfl, ?_⟩
    refine ⟨bp, d0, ac, aj, ah, q1, q2, q3, q4, st0, Kh264Neutral.nat nn, Kh264Neutral.nat st, ms, Kh264Neutral.nats rj, Kh264Neutral.nats rd, ?_, hbp, by rw [f2]; exact e16, by rw [f3]; exact e26, by rw [vn_nats pj]; exact e36, by rw [vn_nats pd]; exact e4, f5, f4, hfl, hl, fun ho H7 cs abs kb g1 g2 kp => ?_, fun ho H7 sm => ?_⟩
    · rw [en, es]; rfl
    · rw [if_pos ho] at stp
      have nrp : rp ∉ [bp] := fun mm => by
        have z := p6
        rw [List.mem_singleton.mp mm, hbp] at z
        injection z with z
        injection z with _ _ z
        exact bfl_ne_rfl _ _ _ _ _ _ z
      have n64 : Kh264Neutral.nat nn ≤ 64 := by
        rw [okStart_eq f4] at ho
        simp only [okNets, Bool.and_eq_true, decide_eq_true_eq] at ho
        exact ho.1.2.2.1
      refine k H7 _ 0 ⟨kp _ _ p6 nrp, W6.cl.frz (Frzd.one kp hbp), ?_⟩ (fz.trans (Frzd.one kp hbp)) dr (by rw [stp])
      rw [stp]
      exact ⟨wf_start ho f4 (hl n64).1 (hl n64).2, cs, abs, kb⟩
    · rw [if_neg (by rw [ho]; exact Bool.false_ne_true)] at stp
      refine k H7 _ (-22) ⟨sm _ _ p6, W6.cl.frz (Frzd.of_same sm), ?_⟩ (fz.trans (Frzd.of_same sm)) dr (by rw [stp])
      rw [stp]
      exact W6.st.same sm
/-! ### answer_clock -/
def spAC (K : PySem.W.Frag) (B C R : Addr) : Sp := fun vs H Q _ => ∃ (bp rp dR a : Addr) (l t : List Int) (b : Kh264.Board) (n : Nat) (m x : Int), vs = [.ref bp, .ref rp] ∧ Wd K B C R H bp rp dR a l (some b) n ∧ l.drop n = m :: x :: t ∧
  Kh264Neutral.asked1 [[1, m, x]] = true ∧ After K B C R H bp rp dR a l t (some b) [[1, m, x]] Q
theorem sc_ac : FnScope ["board", "reader", "mode", "coming"] ["board", "reader"] (defScope (top 36)) := ⟨rfl, rfl, rfl, by decide +kernel, rfl, by decide +kernel, by decide +kernel⟩
theorem say_bi (b : Bool) : (if b = true then (1 : Int) else 0) = bi b := rfl
theorem ok_ac {f B C R g1 g2 : Addr} (D : Def K "answer_clock" "answer_clock" (top 36) f ["board", "reader"]) (Y : BoardC K B) (YR : ReadC K R) (m1 : Meth K R "take_number" g1) (O1 : Ok P w K mg base 1 g1 ["self"] (spNumb K R))
    (m2 : Meth K B "clock" g2) (O2 : Ok P w K mg base 4 g2 ["self", "mode", "coming"] (spClock B C)) : Ok P w K mg base 5 f ["board", "reader"] (spAC K B C R) := by
  obtain ⟨fd, F, bnd⟩ := D
  refine ⟨fd, F.ok sc_ac (fun vs H Q E h => ?_) (fun cdv A outer s H vs Q E hr h => ?_), bnd⟩
  · obtain ⟨bp, rp, dR, a, l, t, b, n, m, x, rfl, _⟩ := h
    rfl
  · obtain ⟨bp, rp, dR, a, l, t, b, n, m, x, rfl, W, hd, ask, k⟩ := h
    have hr1 : Room 1 _ := hr.mono (by decide)
    refine ⟨_, pss_cons (ps_set (i := 2) sc_ac.nd rfl (Or.inl rfl) (pmeth0 (pv 1) YR.cl m1 O1 hr1 pass0)) (pss_cons (ps_set (i := 3) sc_ac.nd rfl (Or.inl rfl) (pmeth0 (pv 1) YR.cl m1 O1 hr1 pass0))
      (pss_one (ps_ret (pmeth (pv 0) Y.cl m2 O2 hr pass0 (pa_cons (pv 2) (pa_cons (pv 3) pa_nil)))))), ?_⟩
    obtain ⟨x1, d1, _⟩ := drop_get hd
    refine ⟨_, rfl, rp, dR, _, rfl, W.rd, rk_m2 .., rp, dR, a, n, l, m, rfl, W.rd, W.cl, x1, fun H1 p1 k1 => ?_⟩
    have W1 := W.go p1 k1
    obtain ⟨x2, d2, _⟩ := drop_get d1
    refine ⟨_, rfl, rp, dR, _, rfl, W1.rd, rk_m2 .., rp, dR, a, n + 1, l, x, rfl, W1.rd, W1.cl, x2, fun H2 p2 k2 => ?_⟩
    have W2 := W1.go p2 k2
    have ask' : (Kh264Neutral.natural m 32 && Kh264Neutral.natural x 32) = true := ask
    simp only [Kh264Neutral.natural, Bool.and_eq_true, decide_eq_true_eq] at ask'
    have em : ((Kh264Neutral.nat m : Nat) : Int) = m := Int.toNat_of_nonneg ask'.1.1
    have ex : ((Kh264Neutral.nat x : Nat) : Int) = x := Int.toNat_of_nonneg ask'.2.1
    obtain ⟨wf, cs, abs, kb⟩ := W2.st
    obtain ⟨d0, ac, aj, ah, hbp, _⟩ := kb.ex
    have fz : Frzd H H2 := (Frzd.one k1 W.rd).trans (Frzd.one k2 W1.rd)
    have stp := step_clock (b := b) (m := m) (x := x)
    refine ⟨_, rfl, bp, d0, _, rfl, hbp, bk_m2 .., _, rfl, _, rfl, ?_⟩
    refine ⟨bp, cs, abs, b, Kh264Neutral.nat m, Kh264Neutral.nat x, ?_, kb, wf, fun ho => ?_, fun h1 h2 H3 kb3 kp => ?_⟩
    · rw [em, ex]; rfl
    · have e : Kh264.doing b (.clock (Kh264Neutral.nat m) (Kh264Neutral.nat x)) = (b, Kh264.say (-22)) := by
        unfold Kh264.doing
        simp only []
        rw [if_pos ho]
      rw [e] at stp
      refine k H2 _ (-22) ⟨W2.rd, W2.cl, ?_⟩ fz d2 (by rw [stp]; rfl)
      rw [stp]
      exact W2.st
    · have e : Kh264.doing b (.clock (Kh264Neutral.nat m) (Kh264Neutral.nat x)) = ((Kh264.clock b (Kh264Neutral.nat m == 1) (Kh264Neutral.nat x == 1)).1, Kh264.say (if (Kh264.clock b (Kh264Neutral.nat m == 1) (Kh264Neutral.nat x == 1)).2 = true then 1 else 0)) := by
        unfold Kh264.doing
        simp only []
        rw [if_neg (by omega)]
      rw [e] at stp
      have nrp : rp ∉ bp :: (cs ++ abs) := fun mm => by
        rcases List.mem_cons.mp mm with z | z
        · have y := p2
          rw [z, hbp] at y
          injection y with y
          injection y with _ _ y
          exact bfl_ne_rfl _ _ _ _ _ _ y
        · rcases List.mem_append.mp z with z | z
          · obtain ⟨dx, c, an, ad, ab, adt, ai, y⟩ := kb.chips.isC z
            rw [p2] at y
            injection y with y
            injection y with _ _ y
            exact cf_ne_rfl _ _ _ _ _ _ _ _ y.symm
          · obtain ⟨xs, y⟩ := kb.chips.isB z
            rw [p2] at y; cases y
      have fz3 : Frzd H2 H3 := .of_keep kp fun y hy => by
        rcases List.mem_cons.mp hy with z | z
        · rw [z]; exact .inr ⟨_, _, _, hbp⟩
        · rcases List.mem_append.mp z with z | z
          · obtain ⟨dx, c, an, ad, ab, adt, ai, y⟩ := kb.chips.isC z
            exact .inr ⟨_, _, _, y⟩
          · exact .inl (kb.chips.isB z)
      refine k H3 _ _ ⟨kp _ _ p2 nrp, W2.cl.frz fz3, ?_⟩ (fz.trans fz3) d2 (by rw [stp]; rfl)
      rw [stp]
      exact ⟨wf_clock wf _ _, cs, abs, kb3⟩
/-! ### answer_call -/
def spCall (K : PySem.W.Frag) (B C R : Addr) : Sp := fun vs H Q _ => ∃ (bp rp dR a : Addr) (l t : List Int) (s : Kh264Neutral.S) (n : Nat) (c : List (List Int)), vs = [.ref bp, .ref rp] ∧ Wd K B C R H bp rp dR a l s n ∧ l.length ≤ 50000 ∧ Got (l.drop n) c t ∧
  Kh264Neutral.asked1 c = true ∧ (s.isSome || (c.getD 0 []).headD 9 == 0) = true ∧ After K B C R H bp rp dR a l t s c Q
theorem sc_call : FnScope ["board", "reader", "call"] ["board", "reader"] (defScope (top 37)) := ⟨rfl, rfl, rfl, by decide +kernel, rfl, by decide +kernel, by decide +kernel⟩
theorem got_inv {L c t} (h : Got L c t) : (∃ nn st l1 l2 l3 l4 a b j d, L = 0 :: nn :: st :: l1 ∧ PyFlat.row l1 = some (a, l2) ∧ PyFlat.row l2 = some (b, l3) ∧ PyFlat.row l3 = some (j, l4) ∧ PyFlat.row l4 = some (d, t) ∧ c = [[0, nn, st], a, b, j, d]) ∨
    (∃ m x, L = 1 :: m :: x :: t ∧ c = [[1, m, x]]) ∨ (∃ i, L = 2 :: i :: t ∧ c = [[2, i]]) ∨ (L = 3 :: t ∧ c = [[3]]) := by
  cases h with
  | start h1 h2 h3 h4 => exact .inl ⟨_, _, _, _, _, _, _, _, _, _, rfl, h1, h2, h3, h4, rfl⟩
  | clock => exact .inr (.inl ⟨_, _, rfl, rfl⟩)
  | net => exact .inr (.inr (.inl ⟨_, rfl, rfl⟩))
  | state => exact .inr (.inr (.inr ⟨rfl, rfl⟩))
theorem ok_call {f B C R g1 g2 g3 g4 : Addr} (D : Def K "answer_call" "answer_call" (top 37) f ["board", "reader"]) (T : Glb mg) (Y : BoardC K B) (YR : ReadC K R) (m1 : Meth K R "take_number" g1) (O1 : Ok P w K mg base 1 g1 ["self"] (spNumb K R))
    (m2 : mg "answer_start" = some (.ref g2)) (k2 : PySem.W.keepIn K (.ref g2) = true) (O2 : Ok P w K mg base 6 g2 ["board", "reader"] (spAS K B C R))
    (m3 : mg "answer_clock" = some (.ref g3)) (k3 : PySem.W.keepIn K (.ref g3) = true) (O3 : Ok P w K mg base 5 g3 ["board", "reader"] (spAC K B C R))
    (m4 : Meth K B "net" g4) (O4 : Ok P w K mg base 3 g4 ["self", "wanted"] (spNet B C)) : Ok P w K mg base 7 f ["board", "reader"] (spCall K B C R) := by
  obtain ⟨fd, F, bnd⟩ := D
  refine ⟨fd, F.ok sc_call (fun vs H Q E h => ?_) (fun cdv A outer s H vs Q E hr h => ?_), bnd⟩
  · obtain ⟨bp, rp, dR, a, l, t, s, n, c, rfl, _⟩ := h
    rfl
  · obtain ⟨bp, rp, dR, a, l, t, s, n, c, rfl, W, h31, got, ask, hs, k⟩ := h
    have hr1 : Room 1 _ := hr.mono (by decide)
    have hr3 : Room 3 _ := hr.mono (by decide)
    have hr5 : Room 5 _ := hr.mono (by decide)
    refine ⟨_, pss_cons (ps_set (i := 2) sc_call.nd rfl (Or.inl rfl) (pmeth0 (pv 1) YR.cl m1 O1 hr1 pass0))
      (pss_cons (ps_if (pt_cmpR op_eq (pv 2) (pgi T.gstart) (nomark _)) (pss_one (ps_ret (pcall O2 hr m2 k2 pass0 (pa_cons (pv 0) (pa_cons (pv 1) pa_nil))))) pss_nil)
      (pss_cons (ps_if (pt_cmpR op_eq (pv 2) (pgi T.gclock) (nomark _)) (pss_one (ps_ret (pcall O3 hr5 m3 k3 pass0 (pa_cons (pv 0) (pa_cons (pv 1) pa_nil))))) pss_nil)
      (pss_cons (ps_if (pt_cmpR op_eq (pv 2) (pgi T.gnet) (nomark _)) (pss_one (ps_ret (pmeth (pv 0) Y.cl m4 O4 hr3 pass0 (pa_cons (pmeth0 (pv 1) YR.cl m1 O1 hr1 pass0) pa_nil)))) pss_nil)
      (pss_one (ps_ret (pe_fld (pv 0) rfl)))))), ?_⟩
    obtain ⟨p, r, hd⟩ : ∃ p r, l.drop n = p :: r := by
      rcases got_inv got with ⟨nn, st, l1, l2, l3, l4, ra, rb, j, d, e, _⟩ | ⟨m, x, e, _⟩ | ⟨i, e, _⟩ | ⟨e, _⟩ <;> exact ⟨_, _, e⟩
    obtain ⟨x1, d1, _⟩ := drop_get hd
    refine ⟨_, rfl, rp, dR, _, rfl, W.rd, rk_m2 .., rp, dR, a, n, l, p, rfl, W.rd, W.cl, x1, fun H1 p1 k1 => ?_⟩
    have W1 := W.go p1 k1
    have fz := Frzd.one k1 W.rd
    have k1' : After K B C R H1 bp rp dR a l t s c Q := fun H' n' v hw hf => k H' n' v hw (fz.trans hf)
    rw [hd] at got
    rcases got_inv got with ⟨nn, st, l1, l2, l3, l4, ra, rb, j, d, e, w1, w2, w3, w4, ec⟩ | ⟨m, x, e, ec⟩ | ⟨i, e, ec⟩ | ⟨e, ec⟩
    · obtain ⟨ep, er⟩ := List.cons.inj e
      subst ep ec
      rw [er] at d1
      refine ⟨_, rfl, rfl, _, rfl, ?_⟩
      refine iteI (fun _ => ?_) (fun z => absurd rfl z)
      exact ⟨_, rfl, _, rfl, bp, rp, dR, a, l, t, l1, l2, l3, l4, ra, rb, j, d, s, n + 1, nn, st, rfl, W1, h31, d1, w1, w2, w3, w4, ask, k1'⟩
    · obtain ⟨ep, er⟩ := List.cons.inj e
      subst ep ec
      rw [er] at d1
      cases s with
      | none => exact absurd hs Bool.false_ne_true
      | some b =>
        refine ⟨_, rfl, rfl, _, rfl, ?_⟩
        refine iteI (fun z => absurd z (by decide)) (fun _ => ?_)
        refine ⟨_, rfl, rfl, _, rfl, ?_⟩
        refine iteI (fun _ => ?_) (fun z => absurd rfl z)
        exact ⟨_, rfl, _, rfl, bp, rp, dR, a, l, t, b, n + 1, m, x, rfl, W1, d1, ask, k1'⟩
    · obtain ⟨ep, er⟩ := List.cons.inj e
      subst ep ec
      rw [er] at d1
      cases s with
      | none => exact absurd hs Bool.false_ne_true
      | some b =>
        refine ⟨_, rfl, rfl, _, rfl, ?_⟩
        refine iteI (fun z => absurd z (by decide)) (fun _ => ?_)
        refine ⟨_, rfl, rfl, _, rfl, ?_⟩
        refine iteI (fun z => absurd z (by decide)) (fun _ => ?_)
        refine ⟨_, rfl, rfl, _, rfl, ?_⟩
        refine iteI (fun _ => ?_) (fun z => absurd rfl z)
        obtain ⟨wf, cs, abs, kb⟩ := W1.st
        obtain ⟨d0, ac, aj, ah, hbp, _⟩ := kb.ex
        obtain ⟨x2, d2, _⟩ := drop_get d1
        refine ⟨_, rfl, bp, d0, _, rfl, hbp, bk_m8 .., _, rfl, rp, dR, _, rfl, W1.rd, rk_m2 .., rp, dR, a, n + 1, l, i, rfl, W1.rd, W1.cl, x2, fun H2 p2 k2' => ?_⟩
        have W2 := W1.go p2 k2'
        have fz2 := Frzd.one k2' W1.rd
        have ask' : Kh264Neutral.natural i 32 = true := ask
        simp only [Kh264Neutral.natural, Bool.and_eq_true, decide_eq_true_eq] at ask'
        have ei : ((Kh264Neutral.nat i : Nat) : Int) = i := Int.toNat_of_nonneg ask'.1
        obtain ⟨wf2, cs2, abs2, kb2⟩ := W2.st
        have stp := step_net (b := b) (i := i)
        refine ⟨bp, cs2, abs2, b, Kh264Neutral.nat i, ?_, kb2, wf2, fun ho => ?_, fun ho H3 sm => ?_⟩
        · rw [ei]; rfl
        · have e : Kh264.doing b (.net (Kh264Neutral.nat i)) = (b, Kh264.say (-22)) := by
            unfold Kh264.doing
            simp only []
            rw [if_pos ho]
          rw [e] at stp
          refine k1' H2 _ (-22) ⟨W2.rd, W2.cl, ?_⟩ fz2 d2 (by rw [stp]; rfl)
          rw [stp]
          exact W2.st
        · have e : Kh264.doing b (.net (Kh264Neutral.nat i)) = (b, Kh264.say (if Kh264.value b (Kh264Neutral.nat i) = true then 1 else 0)) := by
            unfold Kh264.doing
            simp only []
            rw [if_neg (by omega)]
          rw [e] at stp
          refine k1' H3 _ _ ⟨sm _ _ p2, W2.cl.frz (Frzd.of_same sm), ?_⟩ (fz2.trans (Frzd.of_same sm)) d2 (by rw [stp]; rfl)
          rw [stp]
          exact W2.st.same sm
    · obtain ⟨ep, er⟩ := List.cons.inj e
      subst ep ec
      rw [er] at d1
      cases s with
      | none => exact absurd hs Bool.false_ne_true
      | some b =>
        refine ⟨_, rfl, rfl, _, rfl, ?_⟩
        refine iteI (fun z => absurd z (by decide)) (fun _ => ?_)
        refine ⟨_, rfl, rfl, _, rfl, ?_⟩
        refine iteI (fun z => absurd z (by decide)) (fun _ => ?_)
        refine ⟨_, rfl, rfl, _, rfl, ?_⟩
        refine iteI (fun z => absurd z (by decide)) (fun _ => ?_)
        obtain ⟨wf, cs, abs, kb⟩ := W1.st
        obtain ⟨d0, ac, aj, ah, hbp, _⟩ := kb.ex
        refine ⟨_, rfl, bp, B, d0, _, _, rfl, hbp, Y.cl, Y.nS, bk_s .., ?_⟩
        exact k1' H1 (n + 1) _ W1 (Frzd.refl _) d1 rfl
end
end Cc

end

section
set_option Elab.async false
set_option linter.all false
set_option maxRecDepth 100000
set_option maxHeartbeats 4000000
namespace Cc
open PySem PySem.Spec PyProof.Rows L2
theorem got_len {L c t} (h : Got L c t) : t.length < L.length := by
  cases h with
  | start h1 h2 h3 h4 =>
    obtain ⟨n1, r1, rfl, _, _, _, e1⟩ := row_inv h1
    obtain ⟨n2, r2, g2, _, _, _, e2⟩ := row_inv h2
    obtain ⟨n3, r3, g3, _, _, _, e3⟩ := row_inv h3
    obtain ⟨n4, r4, g4, _, _, _, e4⟩ := row_inv h4
    have a1 := congrArg List.length e1
    have a2 := congrArg List.length e2
    have a3 := congrArg List.length e3
    have a4 := congrArg List.length e4
    have b2 := congrArg List.length g2
    have b3 := congrArg List.length g3
    have b4 := congrArg List.length g4
    rw [List.length_drop] at a1 a2 a3 a4
    rw [List.length_cons] at b2 b3 b4
    simp only [List.length_cons]
    omega
  | clock => simp only [List.length_cons]; omega
  | net => simp only [List.length_cons]; omega
  | state => simp only [List.length_cons]; omega
section
variable {P : Program} {w : World} {K : PySem.W.Frag} {mg : Str → Option Value} {base : Heap}
def spAns (K : PySem.W.Frag) : Sp := fun vs H Q _ => ∃ (a : Addr) (l : List Int), vs = [.ref a] ∧ CallsAt K H a (vi l) ∧ PyKh264.answers_asked l = true ∧ l.length ≤ 31000 ∧ ∀ (H' : Hp) (p : Addr), H' p = some (.lst (vi (PyKh264.answers l))) → Q (.ref p) H'
theorem sc_ans : FnScope ["calls", "board", "reader", "given"] ["calls"] (defScope (top 38)) := ⟨rfl, rfl, rfl, by decide +kernel, rfl, by decide +kernel, by decide +kernel⟩
theorem upd_of {H : Hp} {q x : Addr} {o u : HO} (h : (upd H q u) x = some o) (hne : o ≠ u) : H x = some o ∧ x ≠ q := by
  by_cases e : x = q
  · rw [e, upd_same] at h
    exact absurd (Option.some.inj h).symm hne
  · rw [upd_ne e] at h
    exact ⟨h, e⟩
theorem keep_swap {H : Hp} {q : Addr} {o1 o2 : HO} : Keep [q] (upd H q o1) (upd H q o2) := fun b o e n => by
  have hne : b ≠ q := fun z => n (by simp [z])
  rw [upd_ne hne] at e ⊢
  exact e
theorem ok_ans {f B C R g1 g2 g3 g4 : Addr} {fd : FuncData} (F : Fun K "answers" "answers" (top 38) f fd) (YR : ReadC K R) (MB : Mk K B g1) (mB : mg "Board" = some (.ref B)) (O1 : Ok P w K mg base 1 g1 ["self"] (spBI B))
    (MR : Mk K R g2) (mR : mg "Reader" = some (.ref R)) (O2 : Ok P w K mg base 1 g2 ["self", "calls"] (spRInit R)) (m3 : Meth K R "at_end" g3) (O3 : Ok P w K mg base 1 g3 ["self"] (spEnd K R))
    (m4 : mg "answer_call" = some (.ref g4)) (k4 : PySem.W.keepIn K (.ref g4) = true) (O4 : Ok P w K mg base 7 g4 ["board", "reader"] (spCall K B C R)) : FnOk P w K mg base CX0 8 f fd ["calls"] (spAns K) := by
  refine F.ok sc_ans (fun vs H Q E h => ?_) (fun cdv A outer s H vs Q E hr h => ?_)
  · obtain ⟨a, l, rfl, _⟩ := h
    rfl
  · obtain ⟨a, l, rfl, hcl0, ask, h31, k⟩ := h
    have hr1 : Room 1 _ := hr.mono (by decide)
    have hr2 : Room 2 _ := hr.mono (by decide)
    obtain ⟨cs0, left0, eans⟩ := left_of ask
    refine ⟨_, pss_cons (ps_set (i := 1) sc_ans.nd rfl (Or.inl rfl) (pmake0 MB O1 hr2 mB pass0)) (pss_cons (ps_set (i := 2) sc_ans.nd rfl (Or.inl rfl) (pmake MR O2 hr2 mR pass0 (pa_cons (pv 0) pa_nil)))
      (pss_cons (ps_set (i := 3) sc_ans.nd rfl (Or.inl rfl) (pe_lst pa_nil))
      (pss_cons (ps_while PassesOwn.never (pt_not (pt_val (pmeth0 (pv 2) YR.cl m3 O3 hr1 pass0)))
        (pss_cons (ps_expr (pe_bm PySem.F.plainAttrs_list PySem.F.slot_list_append PySem.F.type_list_append mt_append (pv 3) (pa_cons pe_int pa_nil)))
        (pss_one (ps_expr (pe_bm PySem.F.plainAttrs_list PySem.F.slot_list_append PySem.F.type_list_append mt_append (pv 3) (pa_cons (pe_lock (pcall O4 hr m4 k4 pass0 (pa_cons (pv 1) (pa_cons (pv 2) pa_nil)))) pa_nil))))))
      (pss_one (ps_ret (pv 3)))))), ?_⟩
    -- board = Board()
    intro bp dB nb nd ne
    refine ⟨bp, dB, rfl, upd_same, fun H1 hb1 kp1 => ⟨rfl, ?_⟩⟩
    have s1 : Same H H1 := Same.made (C := B) nb nd fun b o e hne => kp1 b o e fun m => hne (List.mem_singleton.mp m)
    -- reader = Reader(calls)
    refine ⟨_, rfl, fun rp dR nr nd2 ne2 => ?_⟩
    refine ⟨rp, dR, a, rfl, upd_same, fun H2 hr2' kp2 => ⟨rfl, ?_⟩⟩
    have s2 : Same H1 H2 := Same.made (C := R) nr nd2 fun b o e hne => kp2 b o e fun m => hne (List.mem_singleton.mp m)
    -- given = []
    refine ⟨Nat.zero_le _, fun q hq => ?_⟩
    have cl2 : CallsAt K H2 a (vi l) := hcl0.frz (Frzd.of_same (s1.trans s2))
    have hcl : ∀ G G' : Hp, Keep [q] G G' → CallsAt K G a (vi l) → CallsAt K G' a (vi l) := fun G G' kp hc => by
      rcases cl2 with ⟨o, z⟩ | z
      · have hne : a ∉ [q] := fun m => ne_of_none z hq (List.mem_singleton.mp m)
        rcases hc with ⟨o', y⟩ | y
        · exact .inl ⟨o', kp _ _ y hne⟩
        · exact .inr y
      · exact .inr z
    have go : ∀ {G G' : Hp} {st : Kh264Neutral.S} {n : Nat} {o : HO}, Wd K B C R G bp rp dR a l st n → G q = some o → (∀ xs, o ≠ .lst xs) → (∀ X d fs, o ≠ .ins X d fs) → Keep [q] G G' → Wd K B C R G' bp rp dR a l st n := fun {G G' st n o} W hq n1 n2 kp =>
      ⟨kp _ _ W.rd fun m => by
        have z := W.rd
        rw [List.mem_singleton.mp m, hq] at z
        exact n2 _ _ _ (Option.some.inj z), hcl _ _ kp W.cl, W.st.oth hq n1 n2 kp⟩
    refine ⟨fun m σ H' => ∃ (gs : List Int) (st : Kh264Neutral.S) (n : Nat) (cs : List (List (List Int))), σ = [some (.ref a), some (.ref bp), some (.ref rp), some (.ref q)] ∧ H' q = some (.lst (vi gs)) ∧ Wd K B C R (upd H' q (.tup [])) bp rp dR a l st n ∧ Left st (l.drop n) cs ∧
        gs ++ PyFlat.told (PyFlat.played Kh264Neutral.step st cs) = PyKh264.answers l ∧ gs.length + 2 * cs.length ≤ 4000 ∧ m = l.length - n, ⟨_, [], none, 0, cs0, rfl, upd_same, ?_, left0, eans.symm, ?_, rfl⟩, ?_⟩
    · rw [upd_upd]
      have s3 : Same H2 (upd H2 q (.tup [])) := same_new (same_refl H2) hq
      obtain ⟨ac, aj, ah, hb1⟩ := hb1
      exact ⟨s3 _ _ hr2', cl2.frz (Frzd.of_same s3), dB, ac, aj, ah, s3 _ _ (s2 _ _ hb1)⟩
    · have := left0.few
      show 0 + 2 * cs0.length ≤ 4000
      omega
    · rintro m σ H' ⟨gs, st, n, cs, rfl, hq', W, left, eq, few, rfl⟩
      obtain ⟨hrp, nrp⟩ := upd_of W.rd (by intro z; cases z)
      have sq : SqL K H' a (vi l) := by
        rcases W.cl with ⟨o, z⟩ | z
        · exact .inl (.inr ⟨o, (upd_of z (by intro z; cases z)).1⟩)
        · exact .inr z
      refine ⟨_, rfl, rp, dR, _, rfl, hrp, rk_m1 .., rp, dR, a, n, l, rfl, hrp, sq, _, rfl, ?_⟩
      by_cases hend : l.length ≤ n
      · rw [decide_eq_true hend]
        refine ⟨_, rfl, ?_⟩
        have en : l.drop n = [] := List.drop_eq_nil_of_le hend
        rw [en] at left
        have ec := left_nil left
        subst ec
        have e2 : PyFlat.told (PyFlat.played Kh264Neutral.step st []) = [] := rfl
        rw [e2, List.append_nil] at eq
        rw [eq] at hq'
        exact k H' q hq'
      · rw [decide_eq_false hend]
        refine ⟨fun σ' H'' => ∃ m', m' < l.length - n ∧ ∃ (gs : List Int) (st : Kh264Neutral.S) (n : Nat) (cs : List (List (List Int))), σ' = [some (.ref a), some (.ref bp), some (.ref rp), some (.ref q)] ∧ H'' q = some (.lst (vi gs)) ∧ Wd K B C R (upd H'' q (.tup [])) bp rp dR a l st n ∧ Left st (l.drop n) cs ∧
          gs ++ PyFlat.told (PyFlat.played Kh264Neutral.step st cs) = PyKh264.answers l ∧ gs.length + 2 * cs.length ≤ 4000 ∧ m' = l.length - n, fun σ' H'' z => z, ?_⟩
        have hn : n < l.length := by omega
        have hdr : l.drop n = l[n] :: l.drop (n + 1) := drop_cons' (List.getElem?_eq_getElem hn)
        generalize l[n] = p at hdr
        generalize hr0 : l.drop (n + 1) = r at hdr
        rw [hdr] at left
        obtain ⟨c, t, cs', ecs, got, ask1, hso, left'⟩ := left_cons left
        subst ecs
        rw [← hdr] at got
        rw [List.length_cons] at few
        -- given.append(1)
        refine ⟨_, rfl, .inl ⟨rfl, _, SqL.of hq'⟩, q, _, _, rfl, rfl, hq', ?_, ?_⟩
        · rw [vi_len]; exact lt_line (by omega)
        -- given.append(answer_call(board, reader))
        refine ⟨_, rfl, .inl ⟨rfl, _, SqL.of upd_same⟩, q, _, upd_same, trivial, fun od => ?_⟩
        rw [upd_upd]
        have Wf : Wd K B C R (upd H' q (.frz od (.lst (vi gs ++ [V.int 1])))) bp rp dR a l st n := go W upd_same (by intro xs z; cases z) (by intro X d fs z; cases z) keep_swap
        have qf : (upd H' q (.frz od (.lst (vi gs ++ [V.int 1])))) q = some (.frz od (.lst (vi gs ++ [V.int 1]))) := upd_same
        refine ⟨_, rfl, _, rfl, bp, rp, dR, a, l, t, st, n, c, rfl, Wf, by omega, got, ask1, hso, fun H2 n' v hw hf hd hv => ?_⟩
        have q2 := hf _ _ _ qf
        refine ⟨q2, q, _, _, rfl, rfl, upd_same, ?_, ?_⟩
        · rw [List.length_append, vi_len]; exact lt_line (by simp; omega)
        · have gl := got_len got
          have el : t.length = l.length - n' := by rw [← hd, List.length_drop]
          rw [List.length_drop] at gl
          refine ⟨l.length - n', by omega, gs ++ [1, v], (Kh264Neutral.step st c).1, n', cs', rfl, ?_, ?_, by rw [hd]; exact left', ?_, ?_, rfl⟩
          · rw [upd_same]
            have ev : vi (gs ++ [1, v]) = (vi gs ++ [V.int 1]) ++ [V.int v] := by
              unfold vi
              rw [List.map_append, List.append_assoc]; rfl
            rw [ev]
          · rw [upd_upd, upd_upd]
            exact go hw q2 (by intro xs z; cases z) (by intro X d fs z; cases z) ((Keep.refl _ H2).upd (by simp))
          · rw [← eq, played_cons, told_cons, hv, List.append_assoc]
            rfl
          · rw [List.length_append]
            show gs.length + 2 + 2 * cs'.length ≤ 4000
            omega
end
end Cc

end

section
set_option Elab.async false
set_option linter.all false
set_option maxRecDepth 100000
set_option maxHeartbeats 4000000
namespace Cc
open PySem PySem.Spec PyProof.Rows L2
section
variable {K : PySem.W.Frag}
theorem def_mk {x qual : Str} {st : Stmt} {f : Addr} {ps : List Str} {oc : Value} {od an : Option Addr} {osl : Array (Option Value)} {kV doc pm cdv ct : Value} (l : K.lookup f = some ⟨oc, od, .func (PySem.W.fnOf x qual (defArgs st) (defBody st) (defScope st) .none kV doc pm an cdv ct), osl⟩)
    (c : PySem.W.codeIn K cdv qual = true) (k : PySem.W.keepIn K (.ref f) = true)
    (h : ∀ (kV doc pm : Value) (an : Option Addr) (cdv ct : Value) (us : List Value), us.length = ps.length → bindArgs (PySem.W.fnOf x qual (defArgs st) (defBody st) (defScope st) .none kV doc pm an cdv ct) ⟨us, []⟩ = pure (ps.zip us)) : Def K x qual st f ps :=
  let F := fun_mk (st := st) l c k
  ⟨_, F, F.binds h⟩
theorem dF0 {f : Addr} {oc : Value} {od an : Option Addr} {osl : Array (Option Value)} {kV doc pm cdv ct : Value} (l : K.lookup f = some ⟨oc, od, .func (PySem.W.fnOf "bits_of" "bits_of" (defArgs (top 26)) (defBody (top 26)) (defScope (top 26)) .none kV doc pm an cdv ct), osl⟩)
    (c : PySem.W.codeIn K cdv "bits_of" = true) (k : PySem.W.keepIn K (.ref f) = true) : Def K "bits_of" "bits_of" (top 26) f ["number", "width"] := def_mk l c k fun _ _ _ _ _ _ us hl => match us, hl with | [_, _], _ => rfl
theorem dF1 {f : Addr} {oc : Value} {od an : Option Addr} {osl : Array (Option Value)} {kV doc pm cdv ct : Value} (l : K.lookup f = some ⟨oc, od, .func (PySem.W.fnOf "number_of" "number_of" (defArgs (top 27)) (defBody (top 27)) (defScope (top 27)) .none kV doc pm an cdv ct), osl⟩)
    (c : PySem.W.codeIn K cdv "number_of" = true) (k : PySem.W.keepIn K (.ref f) = true) : Def K "number_of" "number_of" (top 27) f ["bits"] := def_mk l c k fun _ _ _ _ _ _ us hl => match us, hl with | [_], _ => rfl
theorem dF2 {f : Addr} {oc : Value} {od an : Option Addr} {osl : Array (Option Value)} {kV doc pm cdv ct : Value} (l : K.lookup f = some ⟨oc, od, .func (PySem.W.fnOf "nets_are_wrong" "nets_are_wrong" (defArgs (top 29)) (defBody (top 29)) (defScope (top 29)) .none kV doc pm an cdv ct), osl⟩)
    (c : PySem.W.codeIn K cdv "nets_are_wrong" = true) (k : PySem.W.keepIn K (.ref f) = true) : Def K "nets_are_wrong" "nets_are_wrong" (top 29) f ["nets", "joined", "held"] := def_mk l c k fun _ _ _ _ _ _ us hl => match us, hl with | [_, _, _], _ => rfl
theorem dF3 {f : Addr} {oc : Value} {od an : Option Addr} {osl : Array (Option Value)} {kV doc pm cdv ct : Value} (l : K.lookup f = some ⟨oc, od, .func (PySem.W.fnOf "chips_are_wrong" "chips_are_wrong" (defArgs (top 30)) (defBody (top 30)) (defScope (top 30)) .none kV doc pm an cdv ct), osl⟩)
    (c : PySem.W.codeIn K cdv "chips_are_wrong" = true) (k : PySem.W.keepIn K (.ref f) = true) : Def K "chips_are_wrong" "chips_are_wrong" (top 30) f ["chips"] := def_mk l c k fun _ _ _ _ _ _ us hl => match us, hl with | [_], _ => rfl
theorem dF4 {f : Addr} {oc : Value} {od an : Option Addr} {osl : Array (Option Value)} {kV doc pm cdv ct : Value} (l : K.lookup f = some ⟨oc, od, .func (PySem.W.fnOf "cells_are_wrong" "cells_are_wrong" (defArgs (top 31)) (defBody (top 31)) (defScope (top 31)) .none kV doc pm an cdv ct), osl⟩)
    (c : PySem.W.codeIn K cdv "cells_are_wrong" = true) (k : PySem.W.keepIn K (.ref f) = true) : Def K "cells_are_wrong" "cells_are_wrong" (top 31) f ["cells", "nets"] := def_mk l c k fun _ _ _ _ _ _ us hl => match us, hl with | [_, _], _ => rfl
theorem dF5 {f : Addr} {oc : Value} {od an : Option Addr} {osl : Array (Option Value)} {kV doc pm cdv ct : Value} (l : K.lookup f = some ⟨oc, od, .func (PySem.W.fnOf "made_chips" "made_chips" (defArgs (top 32)) (defBody (top 32)) (defScope (top 32)) .none kV doc pm an cdv ct), osl⟩)
    (c : PySem.W.codeIn K cdv "made_chips" = true) (k : PySem.W.keepIn K (.ref f) = true) : Def K "made_chips" "made_chips" (top 32) f ["chips", "cells"] := def_mk l c k fun _ _ _ _ _ _ us hl => match us, hl with | [_, _], _ => rfl
theorem dF6 {f : Addr} {oc : Value} {od an : Option Addr} {osl : Array (Option Value)} {kV doc pm cdv ct : Value} (l : K.lookup f = some ⟨oc, od, .func (PySem.W.fnOf "answer_start" "answer_start" (defArgs (top 35)) (defBody (top 35)) (defScope (top 35)) .none kV doc pm an cdv ct), osl⟩)
    (c : PySem.W.codeIn K cdv "answer_start" = true) (k : PySem.W.keepIn K (.ref f) = true) : Def K "answer_start" "answer_start" (top 35) f ["board", "reader"] := def_mk l c k fun _ _ _ _ _ _ us hl => match us, hl with | [_, _], _ => rfl
theorem dF7 {f : Addr} {oc : Value} {od an : Option Addr} {osl : Array (Option Value)} {kV doc pm cdv ct : Value} (l : K.lookup f = some ⟨oc, od, .func (PySem.W.fnOf "answer_clock" "answer_clock" (defArgs (top 36)) (defBody (top 36)) (defScope (top 36)) .none kV doc pm an cdv ct), osl⟩)
    (c : PySem.W.codeIn K cdv "answer_clock" = true) (k : PySem.W.keepIn K (.ref f) = true) : Def K "answer_clock" "answer_clock" (top 36) f ["board", "reader"] := def_mk l c k fun _ _ _ _ _ _ us hl => match us, hl with | [_, _], _ => rfl
theorem dF8 {f : Addr} {oc : Value} {od an : Option Addr} {osl : Array (Option Value)} {kV doc pm cdv ct : Value} (l : K.lookup f = some ⟨oc, od, .func (PySem.W.fnOf "answer_call" "answer_call" (defArgs (top 37)) (defBody (top 37)) (defScope (top 37)) .none kV doc pm an cdv ct), osl⟩)
    (c : PySem.W.codeIn K cdv "answer_call" = true) (k : PySem.W.keepIn K (.ref f) = true) : Def K "answer_call" "answer_call" (top 37) f ["board", "reader"] := def_mk l c k fun _ _ _ _ _ _ us hl => match us, hl with | [_, _], _ => rfl
theorem dF9 {f : Addr} {oc : Value} {od an : Option Addr} {osl : Array (Option Value)} {kV doc pm cdv ct : Value} (l : K.lookup f = some ⟨oc, od, .func (PySem.W.fnOf "answers" "answers" (defArgs (top 38)) (defBody (top 38)) (defScope (top 38)) .none kV doc pm an cdv ct), osl⟩)
    (c : PySem.W.codeIn K cdv "answers" = true) (k : PySem.W.keepIn K (.ref f) = true) : Def K "answers" "answers" (top 38) f ["calls"] := def_mk l c k fun _ _ _ _ _ _ us hl => match us, hl with | [_], _ => rfl
theorem dC0 {f : Addr} {oc : Value} {od an : Option Addr} {osl : Array (Option Value)} {kV doc pm cdv ct : Value} (l : K.lookup f = some ⟨oc, od, .func (PySem.W.fnOf "__init__" "Chip.__init__" (defArgs (sC 0)) (defBody (sC 0)) (defScope (sC 0)) .none kV doc pm an cdv ct), osl⟩)
    (c : PySem.W.codeIn K cdv "Chip.__init__" = true) (k : PySem.W.keepIn K (.ref f) = true) : Def K "__init__" "Chip.__init__" (sC 0) f ["self", "ident", "width", "has_id", "cells"] := def_mk l c k fun _ _ _ _ _ _ us hl => match us, hl with | [_, _, _, _, _], _ => rfl
theorem dC1 {f : Addr} {oc : Value} {od an : Option Addr} {osl : Array (Option Value)} {kV doc pm cdv ct : Value} (l : K.lookup f = some ⟨oc, od, .func (PySem.W.fnOf "reset_instruction" "Chip.reset_instruction" (defArgs (sC 1)) (defBody (sC 1)) (defScope (sC 1)) .none kV doc pm an cdv ct), osl⟩)
    (c : PySem.W.codeIn K cdv "Chip.reset_instruction" = true) (k : PySem.W.keepIn K (.ref f) = true) : Def K "reset_instruction" "Chip.reset_instruction" (sC 1) f ["self"] := def_mk l c k fun _ _ _ _ _ _ us hl => match us, hl with | [_], _ => rfl
theorem dC2 {f : Addr} {oc : Value} {od an : Option Addr} {osl : Array (Option Value)} {kV doc pm cdv ct : Value} (l : K.lookup f = some ⟨oc, od, .func (PySem.W.fnOf "reset" "Chip.reset" (defArgs (sC 2)) (defBody (sC 2)) (defScope (sC 2)) .none kV doc pm an cdv ct), osl⟩)
    (c : PySem.W.codeIn K cdv "Chip.reset" = true) (k : PySem.W.keepIn K (.ref f) = true) : Def K "reset" "Chip.reset" (sC 2) f ["self"] := def_mk l c k fun _ _ _ _ _ _ us hl => match us, hl with | [_], _ => rfl
theorem dC3 {f : Addr} {oc : Value} {od an : Option Addr} {osl : Array (Option Value)} {kV doc pm cdv ct : Value} (l : K.lookup f = some ⟨oc, od, .func (PySem.W.fnOf "take_data" "Chip.take_data" (defArgs (sC 3)) (defBody (sC 3)) (defScope (sC 3)) .none kV doc pm an cdv ct), osl⟩)
    (c : PySem.W.codeIn K cdv "Chip.take_data" = true) (k : PySem.W.keepIn K (.ref f) = true) : Def K "take_data" "Chip.take_data" (sC 3) f ["self", "levels"] := def_mk l c k fun _ _ _ _ _ _ us hl => match us, hl with | [_, _], _ => rfl
theorem dC4 {f : Addr} {oc : Value} {od an : Option Addr} {osl : Array (Option Value)} {kV doc pm cdv ct : Value} (l : K.lookup f = some ⟨oc, od, .func (PySem.W.fnOf "seen_by_cells" "Chip.seen_by_cells" (defArgs (sC 4)) (defBody (sC 4)) (defScope (sC 4)) .none kV doc pm an cdv ct), osl⟩)
    (c : PySem.W.codeIn K cdv "Chip.seen_by_cells" = true) (k : PySem.W.keepIn K (.ref f) = true) : Def K "seen_by_cells" "Chip.seen_by_cells" (sC 4) f ["self", "levels"] := def_mk l c k fun _ _ _ _ _ _ us hl => match us, hl with | [_, _], _ => rfl
theorem dC5 {f : Addr} {oc : Value} {od an : Option Addr} {osl : Array (Option Value)} {kV doc pm cdv ct : Value} (l : K.lookup f = some ⟨oc, od, .func (PySem.W.fnOf "shift_data" "Chip.shift_data" (defArgs (sC 5)) (defBody (sC 5)) (defScope (sC 5)) .none kV doc pm an cdv ct), osl⟩)
    (c : PySem.W.codeIn K cdv "Chip.shift_data" = true) (k : PySem.W.keepIn K (.ref f) = true) : Def K "shift_data" "Chip.shift_data" (sC 5) f ["self", "coming"] := def_mk l c k fun _ _ _ _ _ _ us hl => match us, hl with | [_, _], _ => rfl
theorem dC6 {f : Addr} {oc : Value} {od an : Option Addr} {osl : Array (Option Value)} {kV doc pm cdv ct : Value} (l : K.lookup f = some ⟨oc, od, .func (PySem.W.fnOf "set_data" "Chip.set_data" (defArgs (sC 6)) (defBody (sC 6)) (defScope (sC 6)) .none kV doc pm an cdv ct), osl⟩)
    (c : PySem.W.codeIn K cdv "Chip.set_data" = true) (k : PySem.W.keepIn K (.ref f) = true) : Def K "set_data" "Chip.set_data" (sC 6) f ["self"] := def_mk l c k fun _ _ _ _ _ _ us hl => match us, hl with | [_], _ => rfl
theorem dC7 {f : Addr} {oc : Value} {od an : Option Addr} {osl : Array (Option Value)} {kV doc pm cdv ct : Value} (l : K.lookup f = some ⟨oc, od, .func (PySem.W.fnOf "take_instruction" "Chip.take_instruction" (defArgs (sC 7)) (defBody (sC 7)) (defScope (sC 7)) .none kV doc pm an cdv ct), osl⟩)
    (c : PySem.W.codeIn K cdv "Chip.take_instruction" = true) (k : PySem.W.keepIn K (.ref f) = true) : Def K "take_instruction" "Chip.take_instruction" (sC 7) f ["self"] := def_mk l c k fun _ _ _ _ _ _ us hl => match us, hl with | [_], _ => rfl
theorem dC8 {f : Addr} {oc : Value} {od an : Option Addr} {osl : Array (Option Value)} {kV doc pm cdv ct : Value} (l : K.lookup f = some ⟨oc, od, .func (PySem.W.fnOf "shift_instruction" "Chip.shift_instruction" (defArgs (sC 8)) (defBody (sC 8)) (defScope (sC 8)) .none kV doc pm an cdv ct), osl⟩)
    (c : PySem.W.codeIn K cdv "Chip.shift_instruction" = true) (k : PySem.W.keepIn K (.ref f) = true) : Def K "shift_instruction" "Chip.shift_instruction" (sC 8) f ["self", "coming"] := def_mk l c k fun _ _ _ _ _ _ us hl => match us, hl with | [_, _], _ => rfl
theorem dC9 {f : Addr} {oc : Value} {od an : Option Addr} {osl : Array (Option Value)} {kV doc pm cdv ct : Value} (l : K.lookup f = some ⟨oc, od, .func (PySem.W.fnOf "set_instruction" "Chip.set_instruction" (defArgs (sC 9)) (defBody (sC 9)) (defScope (sC 9)) .none kV doc pm an cdv ct), osl⟩)
    (c : PySem.W.codeIn K cdv "Chip.set_instruction" = true) (k : PySem.W.keepIn K (.ref f) = true) : Def K "set_instruction" "Chip.set_instruction" (sC 9) f ["self"] := def_mk l c k fun _ _ _ _ _ _ us hl => match us, hl with | [_], _ => rfl
theorem dC10 {f : Addr} {oc : Value} {od an : Option Addr} {osl : Array (Option Value)} {kV doc pm cdv ct : Value} (l : K.lookup f = some ⟨oc, od, .func (PySem.W.fnOf "nets_driven_to_0" "Chip.nets_driven_to_0" (defArgs (sC 10)) (defBody (sC 10)) (defScope (sC 10)) .none kV doc pm an cdv ct), osl⟩)
    (c : PySem.W.codeIn K cdv "Chip.nets_driven_to_0" = true) (k : PySem.W.keepIn K (.ref f) = true) : Def K "nets_driven_to_0" "Chip.nets_driven_to_0" (sC 10) f ["self"] := def_mk l c k fun _ _ _ _ _ _ us hl => match us, hl with | [_], _ => rfl
theorem dB0 {f : Addr} {oc : Value} {od an : Option Addr} {osl : Array (Option Value)} {kV doc pm cdv ct : Value} (l : K.lookup f = some ⟨oc, od, .func (PySem.W.fnOf "__init__" "Board.__init__" (defArgs (sB 0)) (defBody (sB 0)) (defScope (sB 0)) .none kV doc pm an cdv ct), osl⟩)
    (c : PySem.W.codeIn K cdv "Board.__init__" = true) (k : PySem.W.keepIn K (.ref f) = true) : Def K "__init__" "Board.__init__" (sB 0) f ["self"] := def_mk l c k fun _ _ _ _ _ _ us hl => match us, hl with | [_], _ => rfl
theorem dB1 {f : Addr} {oc : Value} {od an : Option Addr} {osl : Array (Option Value)} {kV doc pm cdv ct : Value} (l : K.lookup f = some ⟨oc, od, .func (PySem.W.fnOf "start" "Board.start" (defArgs (sB 1)) (defBody (sB 1)) (defScope (sB 1)) .none kV doc pm an cdv ct), osl⟩)
    (c : PySem.W.codeIn K cdv "Board.start" = true) (k : PySem.W.keepIn K (.ref f) = true) : Def K "start" "Board.start" (sB 1) f ["self", "nets", "state", "chips", "cells", "joined", "held"] := def_mk l c k fun _ _ _ _ _ _ us hl => match us, hl with | [_, _, _, _, _, _, _], _ => rfl
theorem dB2 {f : Addr} {oc : Value} {od an : Option Addr} {osl : Array (Option Value)} {kV doc pm cdv ct : Value} (l : K.lookup f = some ⟨oc, od, .func (PySem.W.fnOf "clock" "Board.clock" (defArgs (sB 2)) (defBody (sB 2)) (defScope (sB 2)) .none kV doc pm an cdv ct), osl⟩)
    (c : PySem.W.codeIn K cdv "Board.clock" = true) (k : PySem.W.keepIn K (.ref f) = true) : Def K "clock" "Board.clock" (sB 2) f ["self", "mode", "coming"] := def_mk l c k fun _ _ _ _ _ _ us hl => match us, hl with | [_, _, _], _ => rfl
theorem dB3 {f : Addr} {oc : Value} {od an : Option Addr} {osl : Array (Option Value)} {kV doc pm cdv ct : Value} (l : K.lookup f = some ⟨oc, od, .func (PySem.W.fnOf "act_on_each_chip" "Board.act_on_each_chip" (defArgs (sB 3)) (defBody (sB 3)) (defScope (sB 3)) .none kV doc pm an cdv ct), osl⟩)
    (c : PySem.W.codeIn K cdv "Board.act_on_each_chip" = true) (k : PySem.W.keepIn K (.ref f) = true) : Def K "act_on_each_chip" "Board.act_on_each_chip" (sB 3) f ["self"] := def_mk l c k fun _ _ _ _ _ _ us hl => match us, hl with | [_], _ => rfl
theorem dB4 {f : Addr} {oc : Value} {od an : Option Addr} {osl : Array (Option Value)} {kV doc pm cdv ct : Value} (l : K.lookup f = some ⟨oc, od, .func (PySem.W.fnOf "take_data" "Board.take_data" (defArgs (sB 4)) (defBody (sB 4)) (defScope (sB 4)) .none kV doc pm an cdv ct), osl⟩)
    (c : PySem.W.codeIn K cdv "Board.take_data" = true) (k : PySem.W.keepIn K (.ref f) = true) : Def K "take_data" "Board.take_data" (sB 4) f ["self"] := def_mk l c k fun _ _ _ _ _ _ us hl => match us, hl with | [_], _ => rfl
theorem dB5 {f : Addr} {oc : Value} {od an : Option Addr} {osl : Array (Option Value)} {kV doc pm cdv ct : Value} (l : K.lookup f = some ⟨oc, od, .func (PySem.W.fnOf "shift_data" "Board.shift_data" (defArgs (sB 5)) (defBody (sB 5)) (defScope (sB 5)) .none kV doc pm an cdv ct), osl⟩)
    (c : PySem.W.codeIn K cdv "Board.shift_data" = true) (k : PySem.W.keepIn K (.ref f) = true) : Def K "shift_data" "Board.shift_data" (sB 5) f ["self", "coming"] := def_mk l c k fun _ _ _ _ _ _ us hl => match us, hl with | [_, _], _ => rfl
theorem dB6 {f : Addr} {oc : Value} {od an : Option Addr} {osl : Array (Option Value)} {kV doc pm cdv ct : Value} (l : K.lookup f = some ⟨oc, od, .func (PySem.W.fnOf "shift_instructions" "Board.shift_instructions" (defArgs (sB 6)) (defBody (sB 6)) (defScope (sB 6)) .none kV doc pm an cdv ct), osl⟩)
    (c : PySem.W.codeIn K cdv "Board.shift_instructions" = true) (k : PySem.W.keepIn K (.ref f) = true) : Def K "shift_instructions" "Board.shift_instructions" (sB 6) f ["self", "coming"] := def_mk l c k fun _ _ _ _ _ _ us hl => match us, hl with | [_, _], _ => rfl
theorem dB7 {f : Addr} {oc : Value} {od an : Option Addr} {osl : Array (Option Value)} {kV doc pm cdv ct : Value} (l : K.lookup f = some ⟨oc, od, .func (PySem.W.fnOf "levels" "Board.levels" (defArgs (sB 7)) (defBody (sB 7)) (defScope (sB 7)) .none kV doc pm an cdv ct), osl⟩)
    (c : PySem.W.codeIn K cdv "Board.levels" = true) (k : PySem.W.keepIn K (.ref f) = true) : Def K "levels" "Board.levels" (sB 7) f ["self"] := def_mk l c k fun _ _ _ _ _ _ us hl => match us, hl with | [_], _ => rfl
theorem dB8 {f : Addr} {oc : Value} {od an : Option Addr} {osl : Array (Option Value)} {kV doc pm cdv ct : Value} (l : K.lookup f = some ⟨oc, od, .func (PySem.W.fnOf "net" "Board.net" (defArgs (sB 8)) (defBody (sB 8)) (defScope (sB 8)) .none kV doc pm an cdv ct), osl⟩)
    (c : PySem.W.codeIn K cdv "Board.net" = true) (k : PySem.W.keepIn K (.ref f) = true) : Def K "net" "Board.net" (sB 8) f ["self", "wanted"] := def_mk l c k fun _ _ _ _ _ _ us hl => match us, hl with | [_, _], _ => rfl
theorem dR0 {f : Addr} {oc : Value} {od an : Option Addr} {osl : Array (Option Value)} {kV doc pm cdv ct : Value} (l : K.lookup f = some ⟨oc, od, .func (PySem.W.fnOf "__init__" "Reader.__init__" (defArgs (sR 0)) (defBody (sR 0)) (defScope (sR 0)) .none kV doc pm an cdv ct), osl⟩)
    (c : PySem.W.codeIn K cdv "Reader.__init__" = true) (k : PySem.W.keepIn K (.ref f) = true) : Def K "__init__" "Reader.__init__" (sR 0) f ["self", "calls"] := def_mk l c k fun _ _ _ _ _ _ us hl => match us, hl with | [_, _], _ => rfl
theorem dR1 {f : Addr} {oc : Value} {od an : Option Addr} {osl : Array (Option Value)} {kV doc pm cdv ct : Value} (l : K.lookup f = some ⟨oc, od, .func (PySem.W.fnOf "at_end" "Reader.at_end" (defArgs (sR 1)) (defBody (sR 1)) (defScope (sR 1)) .none kV doc pm an cdv ct), osl⟩)
    (c : PySem.W.codeIn K cdv "Reader.at_end" = true) (k : PySem.W.keepIn K (.ref f) = true) : Def K "at_end" "Reader.at_end" (sR 1) f ["self"] := def_mk l c k fun _ _ _ _ _ _ us hl => match us, hl with | [_], _ => rfl
theorem dR2 {f : Addr} {oc : Value} {od an : Option Addr} {osl : Array (Option Value)} {kV doc pm cdv ct : Value} (l : K.lookup f = some ⟨oc, od, .func (PySem.W.fnOf "take_number" "Reader.take_number" (defArgs (sR 2)) (defBody (sR 2)) (defScope (sR 2)) .none kV doc pm an cdv ct), osl⟩)
    (c : PySem.W.codeIn K cdv "Reader.take_number" = true) (k : PySem.W.keepIn K (.ref f) = true) : Def K "take_number" "Reader.take_number" (sR 2) f ["self"] := def_mk l c k fun _ _ _ _ _ _ us hl => match us, hl with | [_], _ => rfl
theorem dR3 {f : Addr} {oc : Value} {od an : Option Addr} {osl : Array (Option Value)} {kV doc pm cdv ct : Value} (l : K.lookup f = some ⟨oc, od, .func (PySem.W.fnOf "take_row" "Reader.take_row" (defArgs (sR 3)) (defBody (sR 3)) (defScope (sR 3)) .none kV doc pm an cdv ct), osl⟩)
    (c : PySem.W.codeIn K cdv "Reader.take_row" = true) (k : PySem.W.keepIn K (.ref f) = true) : Def K "take_row" "Reader.take_row" (sR 3) f ["self"] := def_mk l c k fun _ _ _ _ _ _ us hl => match us, hl with | [_], _ => rfl
theorem glb_mk {h : Heap} {mg : Str → Option Value} {t0 t1 t2 t3 t4 t5 t6 t7 t8 t9 t10 t11 t12 t13 t14 t15 t16 t17 t18 t19 t20 t21 t22 t23 : Tok} (X : K.In h) (G : h.Ns mainGlobals mg)
    (z0 : PySem.W.nsIn K mainGlobals "range" = some none) (z1 : PySem.W.nsIn K mainGlobals "len" = some none) (z2 : PySem.W.nsIn K mainGlobals "reversed" = some none) (z3 : PySem.W.nsIn K mainGlobals "enumerate" = some none)
    (g0 : PySem.W.nsIn K mainGlobals "REFUSED" = some (some (.int (-22) t0)))
    (g1 : PySem.W.nsIn K mainGlobals "START" = some (some (.int 0 t1)))
    (g2 : PySem.W.nsIn K mainGlobals "CLOCK" = some (some (.int 1 t2)))
    (g3 : PySem.W.nsIn K mainGlobals "NET" = some (some (.int 2 t3)))
    (g4 : PySem.W.nsIn K mainGlobals "RESET" = some (some (.int 0 t4)))
    (g5 : PySem.W.nsIn K mainGlobals "TAKE_DATA" = some (some (.int 3 t5)))
    (g6 : PySem.W.nsIn K mainGlobals "SHIFT_DATA" = some (some (.int 4 t6)))
    (g7 : PySem.W.nsIn K mainGlobals "SET_DATA" = some (some (.int 8 t7)))
    (g8 : PySem.W.nsIn K mainGlobals "TAKE_INSTRUCTIONS" = some (some (.int 10 t8)))
    (g9 : PySem.W.nsIn K mainGlobals "SHIFT_INSTRUCTIONS" = some (some (.int 11 t9)))
    (g10 : PySem.W.nsIn K mainGlobals "SET_INSTRUCTIONS" = some (some (.int 15 t10)))
    (g11 : PySem.W.nsIn K mainGlobals "DRIVE" = some (some (.int 0 t11)))
    (g12 : PySem.W.nsIn K mainGlobals "LOOK" = some (some (.int 1 t12)))
    (g13 : PySem.W.nsIn K mainGlobals "IDENTIFY" = some (some (.int 2 t13)))
    (g14 : PySem.W.nsIn K mainGlobals "HELD_AT_0" = some (some (.int 1 t14)))
    (g15 : PySem.W.nsIn K mainGlobals "HELD_AT_1" = some (some (.int 2 t15)))
    (g16 : PySem.W.nsIn K mainGlobals "NUMBERS_OF_A_CHIP" = some (some (.int 4 t16)))
    (g17 : PySem.W.nsIn K mainGlobals "NUMBERS_OF_A_CELL" = some (some (.int 2 t17)))
    (g18 : PySem.W.nsIn K mainGlobals "ID_WIDTH" = some (some (.int 32 t18)))
    (g19 : PySem.W.nsIn K mainGlobals "MOST_CHIPS" = some (some (.int 8 t19)))
    (g20 : PySem.W.nsIn K mainGlobals "MOST_CELLS" = some (some (.int 64 t20)))
    (g21 : PySem.W.nsIn K mainGlobals "MOST_NETS" = some (some (.int 64 t21)))
    (g22 : PySem.W.nsIn K mainGlobals "LEAST_INSTRUCTION_WIDTH" = some (some (.int 2 t22)))
    (g23 : PySem.W.nsIn K mainGlobals "MOST_INSTRUCTION_WIDTH" = some (some (.int 32 t23))) : Glb mg :=
  ⟨PySem.W.mg_none_of X G z0, PySem.W.mg_none_of X G z1, PySem.W.mg_none_of X G z2, PySem.W.mg_none_of X G z3, ⟨_, PySem.W.mg_of X G g0⟩, ⟨_, PySem.W.mg_of X G g1⟩, ⟨_, PySem.W.mg_of X G g2⟩, ⟨_, PySem.W.mg_of X G g3⟩, ⟨_, PySem.W.mg_of X G g4⟩, ⟨_, PySem.W.mg_of X G g5⟩, ⟨_, PySem.W.mg_of X G g6⟩, ⟨_, PySem.W.mg_of X G g7⟩, ⟨_, PySem.W.mg_of X G g8⟩, ⟨_, PySem.W.mg_of X G g9⟩, ⟨_, PySem.W.mg_of X G g10⟩, ⟨_, PySem.W.mg_of X G g11⟩, ⟨_, PySem.W.mg_of X G g12⟩, ⟨_, PySem.W.mg_of X G g13⟩, ⟨_, PySem.W.mg_of X G g14⟩, ⟨_, PySem.W.mg_of X G g15⟩, ⟨_, PySem.W.mg_of X G g16⟩, ⟨_, PySem.W.mg_of X G g17⟩, ⟨_, PySem.W.mg_of X G g18⟩, ⟨_, PySem.W.mg_of X G g19⟩, ⟨_, PySem.W.mg_of X G g20⟩, ⟨_, PySem.W.mg_of X G g21⟩, ⟨_, PySem.W.mg_of X G g22⟩, ⟨_, PySem.W.mg_of X G g23⟩⟩
theorem tup_mk {p : Addr} {d : Option Addr} {x y : Int} {tx ty : Tok} {n : Nat} {sl : Array (Option Value)} (l : K.lookup p = some ⟨.type "tuple", d, .seq #[.int x tx, .int y ty] n, sl⟩) (H : Hp) : SqT K H p [V.int x, V.int y] :=
  .inr ⟨_, _, _, l, rfl, rfl, (by show 2 ≤ sizeLine; decide), .cons ⟨_, rfl⟩ (.cons ⟨_, rfl⟩ .nil)⟩
theorem tab_mk {nx p0 p1 p2 p3 p4 p5 p6 p7 p8 p9 p10 p11 p12 p13 p14 p15 : Addr} {d d0 d1 d2 d3 d4 d5 d6 d7 d8 d9 d10 d11 d12 d13 d14 d15 : Option Addr} {n n0 n1 n2 n3 n4 n5 n6 n7 n8 n9 n10 n11 n12 n13 n14 n15 : Nat} {sl sl0 sl1 sl2 sl3 sl4 sl5 sl6 sl7 sl8 sl9 sl10 sl11 sl12 sl13 sl14 sl15 : Array (Option Value)} {t0 u0 t1 u1 t2 u2 t3 u3 t4 u4 t5 u5 t6 u6 t7 u7 t8 u8 t9 u9 t10 u10 t11 u11 t12 u12 t13 u13 t14 u14 t15 u15 : Tok}
    (l : K.lookup nx = some ⟨.type "tuple", d, .seq #[.ref p0, .ref p1, .ref p2, .ref p3, .ref p4, .ref p5, .ref p6, .ref p7, .ref p8, .ref p9, .ref p10, .ref p11, .ref p12, .ref p13, .ref p14, .ref p15] n, sl⟩)
    (l0 : K.lookup p0 = some ⟨.type "tuple", d0, .seq #[.int 1 t0, .int 0 u0] n0, sl0⟩)
    (l1 : K.lookup p1 = some ⟨.type "tuple", d1, .seq #[.int 1 t1, .int 2 u1] n1, sl1⟩)
    (l2 : K.lookup p2 = some ⟨.type "tuple", d2, .seq #[.int 3 t2, .int 9 u2] n2, sl2⟩)
    (l3 : K.lookup p3 = some ⟨.type "tuple", d3, .seq #[.int 4 t3, .int 5 u3] n3, sl3⟩)
    (l4 : K.lookup p4 = some ⟨.type "tuple", d4, .seq #[.int 4 t4, .int 5 u4] n4, sl4⟩)
    (l5 : K.lookup p5 = some ⟨.type "tuple", d5, .seq #[.int 6 t5, .int 8 u5] n5, sl5⟩)
    (l6 : K.lookup p6 = some ⟨.type "tuple", d6, .seq #[.int 6 t6, .int 7 u6] n6, sl6⟩)
    (l7 : K.lookup p7 = some ⟨.type "tuple", d7, .seq #[.int 4 t7, .int 8 u7] n7, sl7⟩)
    (l8 : K.lookup p8 = some ⟨.type "tuple", d8, .seq #[.int 1 t8, .int 2 u8] n8, sl8⟩)
    (l9 : K.lookup p9 = some ⟨.type "tuple", d9, .seq #[.int 10 t9, .int 0 u9] n9, sl9⟩)
    (l10 : K.lookup p10 = some ⟨.type "tuple", d10, .seq #[.int 11 t10, .int 12 u10] n10, sl10⟩)
    (l11 : K.lookup p11 = some ⟨.type "tuple", d11, .seq #[.int 11 t11, .int 12 u11] n11, sl11⟩)
    (l12 : K.lookup p12 = some ⟨.type "tuple", d12, .seq #[.int 13 t12, .int 15 u12] n12, sl12⟩)
    (l13 : K.lookup p13 = some ⟨.type "tuple", d13, .seq #[.int 13 t13, .int 14 u13] n13, sl13⟩)
    (l14 : K.lookup p14 = some ⟨.type "tuple", d14, .seq #[.int 11 t14, .int 15 u14] n14, sl14⟩)
    (l15 : K.lookup p15 = some ⟨.type "tuple", d15, .seq #[.int 1 t15, .int 2 u15] n15, sl15⟩) : Tab K nx := by
  refine ⟨[p0, p1, p2, p3, p4, p5, p6, p7, p8, p9, p10, p11, p12, p13, p14, p15], rfl, fun H => .inr ⟨_, _, _, l, rfl, rfl, (by show 16 ≤ sizeLine; decide), .cons rfl (.cons rfl (.cons rfl (.cons rfl (.cons rfl (.cons rfl (.cons rfl (.cons rfl (.cons rfl (.cons rfl (.cons rfl (.cons rfl (.cons rfl (.cons rfl (.cons rfl (.cons rfl (.nil))))))))))))))))⟩, fun i a b e => ?_⟩
  match i, e with
  | 0, e =>
    obtain ⟨e1, e2⟩ := Prod.mk.inj (Option.some.inj (show some ((1 : Nat), (0 : Nat)) = some (a, b) from e))
    subst e1 e2
    exact ⟨p0, rfl, tup_mk l0⟩
  | 1, e =>
    obtain ⟨e1, e2⟩ := Prod.mk.inj (Option.some.inj (show some ((1 : Nat), (2 : Nat)) = some (a, b) from e))
    subst e1 e2
    exact ⟨p1, rfl, tup_mk l1⟩
  | 2, e =>
    obtain ⟨e1, e2⟩ := Prod.mk.inj (Option.some.inj (show some ((3 : Nat), (9 : Nat)) = some (a, b) from e))
    subst e1 e2
    exact ⟨p2, rfl, tup_mk l2⟩
  | 3, e =>
    obtain ⟨e1, e2⟩ := Prod.mk.inj (Option.some.inj (show some ((4 : Nat), (5 : Nat)) = some (a, b) from e))
    subst e1 e2
    exact ⟨p3, rfl, tup_mk l3⟩
  | 4, e =>
    obtain ⟨e1, e2⟩ := Prod.mk.inj (Option.some.inj (show some ((4 : Nat), (5 : Nat)) = some (a, b) from e))
    subst e1 e2
    exact ⟨p4, rfl, tup_mk l4⟩
  | 5, e =>
    obtain ⟨e1, e2⟩ := Prod.mk.inj (Option.some.inj (show some ((6 : Nat), (8 : Nat)) = some (a, b) from e))
    subst e1 e2
    exact ⟨p5, rfl, tup_mk l5⟩
  | 6, e =>
    obtain ⟨e1, e2⟩ := Prod.mk.inj (Option.some.inj (show some ((6 : Nat), (7 : Nat)) = some (a, b) from e))
    subst e1 e2
    exact ⟨p6, rfl, tup_mk l6⟩
  | 7, e =>
    obtain ⟨e1, e2⟩ := Prod.mk.inj (Option.some.inj (show some ((4 : Nat), (8 : Nat)) = some (a, b) from e))
    subst e1 e2
    exact ⟨p7, rfl, tup_mk l7⟩
  | 8, e =>
    obtain ⟨e1, e2⟩ := Prod.mk.inj (Option.some.inj (show some ((1 : Nat), (2 : Nat)) = some (a, b) from e))
    subst e1 e2
    exact ⟨p8, rfl, tup_mk l8⟩
  | 9, e =>
    obtain ⟨e1, e2⟩ := Prod.mk.inj (Option.some.inj (show some ((10 : Nat), (0 : Nat)) = some (a, b) from e))
    subst e1 e2
    exact ⟨p9, rfl, tup_mk l9⟩
  | 10, e =>
    obtain ⟨e1, e2⟩ := Prod.mk.inj (Option.some.inj (show some ((11 : Nat), (12 : Nat)) = some (a, b) from e))
    subst e1 e2
    exact ⟨p10, rfl, tup_mk l10⟩
  | 11, e =>
    obtain ⟨e1, e2⟩ := Prod.mk.inj (Option.some.inj (show some ((11 : Nat), (12 : Nat)) = some (a, b) from e))
    subst e1 e2
    exact ⟨p11, rfl, tup_mk l11⟩
  | 12, e =>
    obtain ⟨e1, e2⟩ := Prod.mk.inj (Option.some.inj (show some ((13 : Nat), (15 : Nat)) = some (a, b) from e))
    subst e1 e2
    exact ⟨p12, rfl, tup_mk l12⟩
  | 13, e =>
    obtain ⟨e1, e2⟩ := Prod.mk.inj (Option.some.inj (show some ((13 : Nat), (14 : Nat)) = some (a, b) from e))
    subst e1 e2
    exact ⟨p13, rfl, tup_mk l13⟩
  | 14, e =>
    obtain ⟨e1, e2⟩ := Prod.mk.inj (Option.some.inj (show some ((11 : Nat), (15 : Nat)) = some (a, b) from e))
    subst e1 e2
    exact ⟨p14, rfl, tup_mk l14⟩
  | 15, e =>
    obtain ⟨e1, e2⟩ := Prod.mk.inj (Option.some.inj (show some ((1 : Nat), (2 : Nat)) = some (a, b) from e))
    subst e1 e2
    exact ⟨p15, rfl, tup_mk l15⟩
  | i + 16, e => exact absurd e (by show ¬ (none : Option (Nat × Nat)) = some (a, b); intro z; cases z)
theorem cc_mk {C : Addr} (pg : PySem.W.plainGet K C Str.empty = true) (hd : PySem.W.hasDictIn K C = true) (po : PySem.W.plainOver K C = true) (sa : PySem.W.findIn K (.ref C) "__setattr__" = some (some (.builtin "object.__setattr__"))) (n0 : PySem.W.findIn K (.ref C) "ident" = some none) (n1 : PySem.W.findIn K (.ref C) "width" = some none) (n2 : PySem.W.findIn K (.ref C) "has_id" = some none) (n3 : PySem.W.findIn K (.ref C) "cell_nets" = some none) (n4 : PySem.W.findIn K (.ref C) "cell_drives" = some none) (n5 : PySem.W.findIn K (.ref C) "cell_bits" = some none) (n6 : PySem.W.findIn K (.ref C) "data" = some none) (n7 : PySem.W.findIn K (.ref C) "new_instruction" = some none) (n8 : PySem.W.findIn K (.ref C) "instruction" = some none) : ChipC K C := ⟨⟨pg, hd, po, sa⟩, n0, n1, n2, n3, n4, n5, n6, n7, n8⟩
theorem cb_mk {C : Addr} (pg : PySem.W.plainGet K C Str.empty = true) (hd : PySem.W.hasDictIn K C = true) (po : PySem.W.plainOver K C = true) (sa : PySem.W.findIn K (.ref C) "__setattr__" = some (some (.builtin "object.__setattr__"))) (n0 : PySem.W.findIn K (.ref C) "state" = some none) (n1 : PySem.W.findIn K (.ref C) "chips" = some none) (n2 : PySem.W.findIn K (.ref C) "joined" = some none) (n3 : PySem.W.findIn K (.ref C) "held" = some none) : BoardC K C := ⟨⟨pg, hd, po, sa⟩, n0, n1, n2, n3⟩
theorem cr_mk {C : Addr} (pg : PySem.W.plainGet K C Str.empty = true) (hd : PySem.W.hasDictIn K C = true) (po : PySem.W.plainOver K C = true) (sa : PySem.W.findIn K (.ref C) "__setattr__" = some (some (.builtin "object.__setattr__"))) (n0 : PySem.W.findIn K (.ref C) "calls" = some none) (n1 : PySem.W.findIn K (.ref C) "place" = some none) : ReadC K C := ⟨⟨pg, hd, po, sa⟩, n0, n1⟩
end
theorem whole {P : Program} {w : World} {K : PySem.W.Frag} {mg : Str → Option Value} {base : Heap} {fd : FuncData} {nx C B R F0 F1 F2 F3 F4 F5 F6 F7 F8 F9 c0 c1 c2 c3 c4 c5 c6 c7 c8 c9 c10 b0 b1 b2 b3 b4 b5 b6 b7 b8 r0 r1 r2 r3 : Addr} (T : Glb mg) (mN : mg "NEXT_STATES" = some (.ref nx)) (tab : Tab K nx)
    (D0 : Def K "bits_of" "bits_of" (top 26) F0 ["number", "width"]) (M0 : mg "bits_of" = some (.ref F0))
    (D1 : Def K "number_of" "number_of" (top 27) F1 ["bits"]) (M1 : mg "number_of" = some (.ref F1))
    (D2 : Def K "nets_are_wrong" "nets_are_wrong" (top 29) F2 ["nets", "joined", "held"]) (M2 : mg "nets_are_wrong" = some (.ref F2))
    (D3 : Def K "chips_are_wrong" "chips_are_wrong" (top 30) F3 ["chips"]) (M3 : mg "chips_are_wrong" = some (.ref F3))
    (D4 : Def K "cells_are_wrong" "cells_are_wrong" (top 31) F4 ["cells", "nets"]) (M4 : mg "cells_are_wrong" = some (.ref F4))
    (D5 : Def K "made_chips" "made_chips" (top 32) F5 ["chips", "cells"]) (M5 : mg "made_chips" = some (.ref F5))
    (D6 : Def K "answer_start" "answer_start" (top 35) F6 ["board", "reader"]) (M6 : mg "answer_start" = some (.ref F6))
    (D7 : Def K "answer_clock" "answer_clock" (top 36) F7 ["board", "reader"]) (M7 : mg "answer_clock" = some (.ref F7))
    (D8 : Def K "answer_call" "answer_call" (top 37) F8 ["board", "reader"]) (M8 : mg "answer_call" = some (.ref F8))
    (D9 : Fun K "answers" "answers" (top 38) F9 fd)
    (Yc : ChipC K C) (Nc : mg "Chip" = some (.ref C)) (Kc : Mk K C c0)
    (Dc0 : Def K "__init__" "Chip.__init__" (sC 0) c0 ["self", "ident", "width", "has_id", "cells"])
    (Dc1 : Def K "reset_instruction" "Chip.reset_instruction" (sC 1) c1 ["self"]) (mc1 : Meth K C "reset_instruction" c1)
    (Dc2 : Def K "reset" "Chip.reset" (sC 2) c2 ["self"]) (mc2 : Meth K C "reset" c2)
    (Dc3 : Def K "take_data" "Chip.take_data" (sC 3) c3 ["self", "levels"]) (mc3 : Meth K C "take_data" c3)
    (Dc4 : Def K "seen_by_cells" "Chip.seen_by_cells" (sC 4) c4 ["self", "levels"]) (mc4 : Meth K C "seen_by_cells" c4)
    (Dc5 : Def K "shift_data" "Chip.shift_data" (sC 5) c5 ["self", "coming"]) (mc5 : Meth K C "shift_data" c5)
    (Dc6 : Def K "set_data" "Chip.set_data" (sC 6) c6 ["self"]) (mc6 : Meth K C "set_data" c6)
    (Dc7 : Def K "take_instruction" "Chip.take_instruction" (sC 7) c7 ["self"]) (mc7 : Meth K C "take_instruction" c7)
    (Dc8 : Def K "shift_instruction" "Chip.shift_instruction" (sC 8) c8 ["self", "coming"]) (mc8 : Meth K C "shift_instruction" c8)
    (Dc9 : Def K "set_instruction" "Chip.set_instruction" (sC 9) c9 ["self"]) (mc9 : Meth K C "set_instruction" c9)
    (Dc10 : Def K "nets_driven_to_0" "Chip.nets_driven_to_0" (sC 10) c10 ["self"]) (mc10 : Meth K C "nets_driven_to_0" c10)
    (Yb : BoardC K B) (Nb : mg "Board" = some (.ref B)) (Kb : Mk K B b0)
    (Db0 : Def K "__init__" "Board.__init__" (sB 0) b0 ["self"])
    (Db1 : Def K "start" "Board.start" (sB 1) b1 ["self", "nets", "state", "chips", "cells", "joined", "held"]) (mb1 : Meth K B "start" b1)
    (Db2 : Def K "clock" "Board.clock" (sB 2) b2 ["self", "mode", "coming"]) (mb2 : Meth K B "clock" b2)
    (Db3 : Def K "act_on_each_chip" "Board.act_on_each_chip" (sB 3) b3 ["self"]) (mb3 : Meth K B "act_on_each_chip" b3)
    (Db4 : Def K "take_data" "Board.take_data" (sB 4) b4 ["self"]) (mb4 : Meth K B "take_data" b4)
    (Db5 : Def K "shift_data" "Board.shift_data" (sB 5) b5 ["self", "coming"]) (mb5 : Meth K B "shift_data" b5)
    (Db6 : Def K "shift_instructions" "Board.shift_instructions" (sB 6) b6 ["self", "coming"]) (mb6 : Meth K B "shift_instructions" b6)
    (Db7 : Def K "levels" "Board.levels" (sB 7) b7 ["self"]) (mb7 : Meth K B "levels" b7)
    (Db8 : Def K "net" "Board.net" (sB 8) b8 ["self", "wanted"]) (mb8 : Meth K B "net" b8)
    (Yr : ReadC K R) (Nr : mg "Reader" = some (.ref R)) (Kr : Mk K R r0)
    (Dr0 : Def K "__init__" "Reader.__init__" (sR 0) r0 ["self", "calls"])
    (Dr1 : Def K "at_end" "Reader.at_end" (sR 1) r1 ["self"]) (mr1 : Meth K R "at_end" r1)
    (Dr2 : Def K "take_number" "Reader.take_number" (sR 2) r2 ["self"]) (mr2 : Meth K R "take_number" r2)
    (Dr3 : Def K "take_row" "Reader.take_row" (sR 3) r3 ["self"]) (mr3 : Meth K R "take_row" r3) : FnOk P w K mg base CX0 8 F9 fd ["calls"] (spAns K) := by
  have o_bits := ok_bits (P := P) (w := w) (base := base) D0 T
  have o_num := ok_num (P := P) (w := w) (base := base) D1 T
  have o_ri := ok_ri (P := P) (w := w) (base := base) Dc1 T Yc
  have o_init := ok_init Dc0 T Yc mc1 o_ri
  have o_reset := ok_reset Dc2 Yc mc1 o_ri
  have o_seen := ok_seen (P := P) (w := w) (base := base) Dc4 T Yc
  have o_take := ok_take Dc3 T Yc mc4 o_seen M0 D0.kp o_bits
  have o_shD := ok_shD (P := P) (w := w) (mg := mg) (base := base) Dc5 Yc
  have o_setD := ok_setD (P := P) (w := w) (base := base) Dc6 T Yc
  have o_takeI := ok_takeI Dc7 Yc M0 D0.kp o_bits
  have o_shI := ok_shI (P := P) (w := w) (mg := mg) (base := base) Dc8 Yc
  have o_setI := ok_setI Dc9 Yc M1 D1.kp o_num
  have o_drv := ok_driven (P := P) (w := w) (base := base) Dc10 T Yc
  have o_nw := ok_nw (P := P) (w := w) (base := base) D2 T
  have o_cw := ok_cw (P := P) (w := w) (base := base) D3 T
  have o_lw := ok_lw (P := P) (w := w) (base := base) D4 T
  have o_mk := ok_mk D5 T Kc Nc o_init
  have o_bi := ok_bi (P := P) (w := w) (base := base) Db0 T Yb
  have o_start := ok_start Db1 T Yb mN tab M2 D2.kp o_nw M3 D3.kp o_cw M4 D4.kp o_lw M5 D5.kp o_mk
  have o_lev := ok_lev Db7 T Yb Yc mc10 o_drv
  have o_net := ok_net Db8 T Yb mb7 o_lev
  have o_btake := ok_btake Db4 Yb Yc mb7 o_lev mc3 o_take
  have o_bshD := ok_bshD Db5 Yb Yc mc5 o_shD
  have o_bshI := ok_bshI Db6 Yb Yc mc8 o_shI
  have o_act := ok_act Db3 T Yb Yc mc2 o_reset mc6 o_setD mc7 o_takeI mc9 o_setI
  have o_clock := ok_clock Db2 T Yb mN tab mb5 o_bshD mb6 o_bshI mb4 o_btake mb3 o_act
  have o_rinit := ok_rinit (P := P) (w := w) (mg := mg) (base := base) Dr0 Yr
  have o_end := ok_end (P := P) (w := w) (base := base) Dr1 T Yr
  have o_numb := ok_numb (P := P) (w := w) (mg := mg) (base := base) Dr2 Yr
  have o_row := ok_row (P := P) (w := w) (mg := mg) (base := base) Dr3 Yr
  have o_as := ok_as D6 Yb Yr mr2 o_numb mr3 o_row mb1 o_start
  have o_ac := ok_ac D7 Yb Yr mr2 o_numb mb2 o_clock
  have o_call := ok_call D8 T Yb Yr mr2 o_numb M6 D6.kp o_as M7 D7.kp o_ac mb8 o_net
  exact ok_ans D9 Yr Kb Nb o_bi Kr Nr o_rinit mr1 o_end M8 D8.kp o_call
theorem fin {h : Heap} {mg : Str → Option Value} {P : Program} {w : World} {K : PySem.W.Frag} {fa nx C B R : Addr}
    {gt0 gt1 gt2 gt3 gt4 gt5 gt6 gt7 gt8 gt9 gt10 gt11 gt12 gt13 gt14 gt15 gt16 gt17 gt18 gt19 gt20 gt21 gt22 gt23 : Tok}
    {p0 p1 p2 p3 p4 p5 p6 p7 p8 p9 p10 p11 p12 p13 p14 p15 : Addr} {td td0 td1 td2 td3 td4 td5 td6 td7 td8 td9 td10 td11 td12 td13 td14 td15 : Option Addr} {tn tn0 tn1 tn2 tn3 tn4 tn5 tn6 tn7 tn8 tn9 tn10 tn11 tn12 tn13 tn14 tn15 : Nat} {tsl tsl0 tsl1 tsl2 tsl3 tsl4 tsl5 tsl6 tsl7 tsl8 tsl9 tsl10 tsl11 tsl12 tsl13 tsl14 tsl15 : Array (Option Value)} {tt0 tu0 tt1 tu1 tt2 tu2 tt3 tu3 tt4 tu4 tt5 tu5 tt6 tu6 tt7 tu7 tt8 tu8 tt9 tu9 tt10 tu10 tt11 tu11 tt12 tu12 tt13 tu13 tt14 tu14 tt15 tu15 : Tok}
    {fF0 : Addr} {odF0 anF0 : Option Addr} {slF0 : Array (Option Value)} {ocF0 kVF0 dcF0 pmF0 cdF0 ctF0 : Value}
    {fF1 : Addr} {odF1 anF1 : Option Addr} {slF1 : Array (Option Value)} {ocF1 kVF1 dcF1 pmF1 cdF1 ctF1 : Value}
    {fF2 : Addr} {odF2 anF2 : Option Addr} {slF2 : Array (Option Value)} {ocF2 kVF2 dcF2 pmF2 cdF2 ctF2 : Value}
    {fF3 : Addr} {odF3 anF3 : Option Addr} {slF3 : Array (Option Value)} {ocF3 kVF3 dcF3 pmF3 cdF3 ctF3 : Value}
    {fF4 : Addr} {odF4 anF4 : Option Addr} {slF4 : Array (Option Value)} {ocF4 kVF4 dcF4 pmF4 cdF4 ctF4 : Value}
    {fF5 : Addr} {odF5 anF5 : Option Addr} {slF5 : Array (Option Value)} {ocF5 kVF5 dcF5 pmF5 cdF5 ctF5 : Value}
    {fF6 : Addr} {odF6 anF6 : Option Addr} {slF6 : Array (Option Value)} {ocF6 kVF6 dcF6 pmF6 cdF6 ctF6 : Value}
    {fF7 : Addr} {odF7 anF7 : Option Addr} {slF7 : Array (Option Value)} {ocF7 kVF7 dcF7 pmF7 cdF7 ctF7 : Value}
    {fF8 : Addr} {odF8 anF8 : Option Addr} {slF8 : Array (Option Value)} {ocF8 kVF8 dcF8 pmF8 cdF8 ctF8 : Value}
    {fF9 : Addr} {odF9 anF9 : Option Addr} {slF9 : Array (Option Value)} {ocF9 kVF9 dcF9 pmF9 cdF9 ctF9 : Value}
    {fC0 : Addr} {odC0 anC0 : Option Addr} {slC0 : Array (Option Value)} {ocC0 kVC0 dcC0 pmC0 cdC0 ctC0 : Value}
    {fC1 : Addr} {odC1 anC1 : Option Addr} {slC1 : Array (Option Value)} {ocC1 kVC1 dcC1 pmC1 cdC1 ctC1 : Value}
    {fC2 : Addr} {odC2 anC2 : Option Addr} {slC2 : Array (Option Value)} {ocC2 kVC2 dcC2 pmC2 cdC2 ctC2 : Value}
    {fC3 : Addr} {odC3 anC3 : Option Addr} {slC3 : Array (Option Value)} {ocC3 kVC3 dcC3 pmC3 cdC3 ctC3 : Value}
    {fC4 : Addr} {odC4 anC4 : Option Addr} {slC4 : Array (Option Value)} {ocC4 kVC4 dcC4 pmC4 cdC4 ctC4 : Value}
    {fC5 : Addr} {odC5 anC5 : Option Addr} {slC5 : Array (Option Value)} {ocC5 kVC5 dcC5 pmC5 cdC5 ctC5 : Value}
    {fC6 : Addr} {odC6 anC6 : Option Addr} {slC6 : Array (Option Value)} {ocC6 kVC6 dcC6 pmC6 cdC6 ctC6 : Value}
    {fC7 : Addr} {odC7 anC7 : Option Addr} {slC7 : Array (Option Value)} {ocC7 kVC7 dcC7 pmC7 cdC7 ctC7 : Value}
    {fC8 : Addr} {odC8 anC8 : Option Addr} {slC8 : Array (Option Value)} {ocC8 kVC8 dcC8 pmC8 cdC8 ctC8 : Value}
    {fC9 : Addr} {odC9 anC9 : Option Addr} {slC9 : Array (Option Value)} {ocC9 kVC9 dcC9 pmC9 cdC9 ctC9 : Value}
    {fC10 : Addr} {odC10 anC10 : Option Addr} {slC10 : Array (Option Value)} {ocC10 kVC10 dcC10 pmC10 cdC10 ctC10 : Value}
    {fB0 : Addr} {odB0 anB0 : Option Addr} {slB0 : Array (Option Value)} {ocB0 kVB0 dcB0 pmB0 cdB0 ctB0 : Value}
    {fB1 : Addr} {odB1 anB1 : Option Addr} {slB1 : Array (Option Value)} {ocB1 kVB1 dcB1 pmB1 cdB1 ctB1 : Value}
    {fB2 : Addr} {odB2 anB2 : Option Addr} {slB2 : Array (Option Value)} {ocB2 kVB2 dcB2 pmB2 cdB2 ctB2 : Value}
    {fB3 : Addr} {odB3 anB3 : Option Addr} {slB3 : Array (Option Value)} {ocB3 kVB3 dcB3 pmB3 cdB3 ctB3 : Value}
    {fB4 : Addr} {odB4 anB4 : Option Addr} {slB4 : Array (Option Value)} {ocB4 kVB4 dcB4 pmB4 cdB4 ctB4 : Value}
    {fB5 : Addr} {odB5 anB5 : Option Addr} {slB5 : Array (Option Value)} {ocB5 kVB5 dcB5 pmB5 cdB5 ctB5 : Value}
    {fB6 : Addr} {odB6 anB6 : Option Addr} {slB6 : Array (Option Value)} {ocB6 kVB6 dcB6 pmB6 cdB6 ctB6 : Value}
    {fB7 : Addr} {odB7 anB7 : Option Addr} {slB7 : Array (Option Value)} {ocB7 kVB7 dcB7 pmB7 cdB7 ctB7 : Value}
    {fB8 : Addr} {odB8 anB8 : Option Addr} {slB8 : Array (Option Value)} {ocB8 kVB8 dcB8 pmB8 cdB8 ctB8 : Value}
    {fR0 : Addr} {odR0 anR0 : Option Addr} {slR0 : Array (Option Value)} {ocR0 kVR0 dcR0 pmR0 cdR0 ctR0 : Value}
    {fR1 : Addr} {odR1 anR1 : Option Addr} {slR1 : Array (Option Value)} {ocR1 kVR1 dcR1 pmR1 cdR1 ctR1 : Value}
    {fR2 : Addr} {odR2 anR2 : Option Addr} {slR2 : Array (Option Value)} {ocR2 kVR2 dcR2 pmR2 cdR2 ctR2 : Value}
    {fR3 : Addr} {odR3 anR3 : Option Addr} {slR3 : Array (Option Value)} {ocR3 kVR3 dcR3 pmR3 cdR3 ctR3 : Value}
    (X : K.In h) (G : h.Ns mainGlobals mg) (hfa : mg "answers" = some (.ref fa))
    (z0 : PySem.W.nsIn K mainGlobals "range" = some none)
    (z1 : PySem.W.nsIn K mainGlobals "len" = some none)
    (z2 : PySem.W.nsIn K mainGlobals "reversed" = some none)
    (z3 : PySem.W.nsIn K mainGlobals "enumerate" = some none)
    (g0 : PySem.W.nsIn K mainGlobals "REFUSED" = some (some (.int (-22) gt0)))
    (g1 : PySem.W.nsIn K mainGlobals "START" = some (some (.int 0 gt1)))
    (g2 : PySem.W.nsIn K mainGlobals "CLOCK" = some (some (.int 1 gt2)))
    (g3 : PySem.W.nsIn K mainGlobals "NET" = some (some (.int 2 gt3)))
    (g4 : PySem.W.nsIn K mainGlobals "RESET" = some (some (.int 0 gt4)))
    (g5 : PySem.W.nsIn K mainGlobals "TAKE_DATA" = some (some (.int 3 gt5)))
    (g6 : PySem.W.nsIn K mainGlobals "SHIFT_DATA" = some (some (.int 4 gt6)))
    (g7 : PySem.W.nsIn K mainGlobals "SET_DATA" = some (some (.int 8 gt7)))
    (g8 : PySem.W.nsIn K mainGlobals "TAKE_INSTRUCTIONS" = some (some (.int 10 gt8)))
    (g9 : PySem.W.nsIn K mainGlobals "SHIFT_INSTRUCTIONS" = some (some (.int 11 gt9)))
    (g10 : PySem.W.nsIn K mainGlobals "SET_INSTRUCTIONS" = some (some (.int 15 gt10)))
    (g11 : PySem.W.nsIn K mainGlobals "DRIVE" = some (some (.int 0 gt11)))
    (g12 : PySem.W.nsIn K mainGlobals "LOOK" = some (some (.int 1 gt12)))
    (g13 : PySem.W.nsIn K mainGlobals "IDENTIFY" = some (some (.int 2 gt13)))
    (g14 : PySem.W.nsIn K mainGlobals "HELD_AT_0" = some (some (.int 1 gt14)))
    (g15 : PySem.W.nsIn K mainGlobals "HELD_AT_1" = some (some (.int 2 gt15)))
    (g16 : PySem.W.nsIn K mainGlobals "NUMBERS_OF_A_CHIP" = some (some (.int 4 gt16)))
    (g17 : PySem.W.nsIn K mainGlobals "NUMBERS_OF_A_CELL" = some (some (.int 2 gt17)))
    (g18 : PySem.W.nsIn K mainGlobals "ID_WIDTH" = some (some (.int 32 gt18)))
    (g19 : PySem.W.nsIn K mainGlobals "MOST_CHIPS" = some (some (.int 8 gt19)))
    (g20 : PySem.W.nsIn K mainGlobals "MOST_CELLS" = some (some (.int 64 gt20)))
    (g21 : PySem.W.nsIn K mainGlobals "MOST_NETS" = some (some (.int 64 gt21)))
    (g22 : PySem.W.nsIn K mainGlobals "LEAST_INSTRUCTION_WIDTH" = some (some (.int 2 gt22)))
    (g23 : PySem.W.nsIn K mainGlobals "MOST_INSTRUCTION_WIDTH" = some (some (.int 32 gt23)))
    (aT : PySem.W.nsIn K mainGlobals "NEXT_STATES" = some (some (.ref nx)))
    (lT : K.lookup nx = some ⟨.type "tuple", td, .seq #[.ref p0, .ref p1, .ref p2, .ref p3, .ref p4, .ref p5, .ref p6, .ref p7, .ref p8, .ref p9, .ref p10, .ref p11, .ref p12, .ref p13, .ref p14, .ref p15] tn, tsl⟩)
    (lT0 : K.lookup p0 = some ⟨.type "tuple", td0, .seq #[.int 1 tt0, .int 0 tu0] tn0, tsl0⟩)
    (lT1 : K.lookup p1 = some ⟨.type "tuple", td1, .seq #[.int 1 tt1, .int 2 tu1] tn1, tsl1⟩)
    (lT2 : K.lookup p2 = some ⟨.type "tuple", td2, .seq #[.int 3 tt2, .int 9 tu2] tn2, tsl2⟩)
    (lT3 : K.lookup p3 = some ⟨.type "tuple", td3, .seq #[.int 4 tt3, .int 5 tu3] tn3, tsl3⟩)
    (lT4 : K.lookup p4 = some ⟨.type "tuple", td4, .seq #[.int 4 tt4, .int 5 tu4] tn4, tsl4⟩)
    (lT5 : K.lookup p5 = some ⟨.type "tuple", td5, .seq #[.int 6 tt5, .int 8 tu5] tn5, tsl5⟩)
    (lT6 : K.lookup p6 = some ⟨.type "tuple", td6, .seq #[.int 6 tt6, .int 7 tu6] tn6, tsl6⟩)
    (lT7 : K.lookup p7 = some ⟨.type "tuple", td7, .seq #[.int 4 tt7, .int 8 tu7] tn7, tsl7⟩)
    (lT8 : K.lookup p8 = some ⟨.type "tuple", td8, .seq #[.int 1 tt8, .int 2 tu8] tn8, tsl8⟩)
    (lT9 : K.lookup p9 = some ⟨.type "tuple", td9, .seq #[.int 10 tt9, .int 0 tu9] tn9, tsl9⟩)
    (lT10 : K.lookup p10 = some ⟨.type "tuple", td10, .seq #[.int 11 tt10, .int 12 tu10] tn10, tsl10⟩)
    (lT11 : K.lookup p11 = some ⟨.type "tuple", td11, .seq #[.int 11 tt11, .int 12 tu11] tn11, tsl11⟩)
    (lT12 : K.lookup p12 = some ⟨.type "tuple", td12, .seq #[.int 13 tt12, .int 15 tu12] tn12, tsl12⟩)
    (lT13 : K.lookup p13 = some ⟨.type "tuple", td13, .seq #[.int 13 tt13, .int 14 tu13] tn13, tsl13⟩)
    (lT14 : K.lookup p14 = some ⟨.type "tuple", td14, .seq #[.int 11 tt14, .int 15 tu14] tn14, tsl14⟩)
    (lT15 : K.lookup p15 = some ⟨.type "tuple", td15, .seq #[.int 1 tt15, .int 2 tu15] tn15, tsl15⟩)
    (aF0 : PySem.W.nsIn K mainGlobals "bits_of" = some (some (.ref fF0)))
    (lF0 : K.lookup fF0 = some ⟨ocF0, odF0, .func (PySem.W.fnOf "bits_of" "bits_of" (defArgs (top 26)) (defBody (top 26)) (defScope (top 26)) .none kVF0 dcF0 pmF0 anF0 cdF0 ctF0), slF0⟩)
    (cF0 : PySem.W.codeIn K cdF0 "bits_of" = true)
    (kF0 : PySem.W.keepIn K (.ref fF0) = true)
    (aF1 : PySem.W.nsIn K mainGlobals "number_of" = some (some (.ref fF1)))
    (lF1 : K.lookup fF1 = some ⟨ocF1, odF1, .func (PySem.W.fnOf "number_of" "number_of" (defArgs (top 27)) (defBody (top 27)) (defScope (top 27)) .none kVF1 dcF1 pmF1 anF1 cdF1 ctF1), slF1⟩)
    (cF1 : PySem.W.codeIn K cdF1 "number_of" = true)
    (kF1 : PySem.W.keepIn K (.ref fF1) = true)
    (aF2 : PySem.W.nsIn K mainGlobals "nets_are_wrong" = some (some (.ref fF2)))
    (lF2 : K.lookup fF2 = some ⟨ocF2, odF2, .func (PySem.W.fnOf "nets_are_wrong" "nets_are_wrong" (defArgs (top 29)) (defBody (top 29)) (defScope (top 29)) .none kVF2 dcF2 pmF2 anF2 cdF2 ctF2), slF2⟩)
    (cF2 : PySem.W.codeIn K cdF2 "nets_are_wrong" = true)
    (kF2 : PySem.W.keepIn K (.ref fF2) = true)
    (aF3 : PySem.W.nsIn K mainGlobals "chips_are_wrong" = some (some (.ref fF3)))
    (lF3 : K.lookup fF3 = some ⟨ocF3, odF3, .func (PySem.W.fnOf "chips_are_wrong" "chips_are_wrong" (defArgs (top 30)) (defBody (top 30)) (defScope (top 30)) .none kVF3 dcF3 pmF3 anF3 cdF3 ctF3), slF3⟩)
    (cF3 : PySem.W.codeIn K cdF3 "chips_are_wrong" = true)
    (kF3 : PySem.W.keepIn K (.ref fF3) = true)
    (aF4 : PySem.W.nsIn K mainGlobals "cells_are_wrong" = some (some (.ref fF4)))
    (lF4 : K.lookup fF4 = some ⟨ocF4, odF4, .func (PySem.W.fnOf "cells_are_wrong" "cells_are_wrong" (defArgs (top 31)) (defBody (top 31)) (defScope (top 31)) .none kVF4 dcF4 pmF4 anF4 cdF4 ctF4), slF4⟩)
    (cF4 : PySem.W.codeIn K cdF4 "cells_are_wrong" = true)
    (kF4 : PySem.W.keepIn K (.ref fF4) = true)
    (aF5 : PySem.W.nsIn K mainGlobals "made_chips" = some (some (.ref fF5)))
    (lF5 : K.lookup fF5 = some ⟨ocF5, odF5, .func (PySem.W.fnOf "made_chips" "made_chips" (defArgs (top 32)) (defBody (top 32)) (defScope (top 32)) .none kVF5 dcF5 pmF5 anF5 cdF5 ctF5), slF5⟩)
    (cF5 : PySem.W.codeIn K cdF5 "made_chips" = true)
    (kF5 : PySem.W.keepIn K (.ref fF5) = true)
    (aF6 : PySem.W.nsIn K mainGlobals "answer_start" = some (some (.ref fF6)))
    (lF6 : K.lookup fF6 = some ⟨ocF6, odF6, .func (PySem.W.fnOf "answer_start" "answer_start" (defArgs (top 35)) (defBody (top 35)) (defScope (top 35)) .none kVF6 dcF6 pmF6 anF6 cdF6 ctF6), slF6⟩)
    (cF6 : PySem.W.codeIn K cdF6 "answer_start" = true)
    (kF6 : PySem.W.keepIn K (.ref fF6) = true)
    (aF7 : PySem.W.nsIn K mainGlobals "answer_clock" = some (some (.ref fF7)))
    (lF7 : K.lookup fF7 = some ⟨ocF7, odF7, .func (PySem.W.fnOf "answer_clock" "answer_clock" (defArgs (top 36)) (defBody (top 36)) (defScope (top 36)) .none kVF7 dcF7 pmF7 anF7 cdF7 ctF7), slF7⟩)
    (cF7 : PySem.W.codeIn K cdF7 "answer_clock" = true)
    (kF7 : PySem.W.keepIn K (.ref fF7) = true)
    (aF8 : PySem.W.nsIn K mainGlobals "answer_call" = some (some (.ref fF8)))
    (lF8 : K.lookup fF8 = some ⟨ocF8, odF8, .func (PySem.W.fnOf "answer_call" "answer_call" (defArgs (top 37)) (defBody (top 37)) (defScope (top 37)) .none kVF8 dcF8 pmF8 anF8 cdF8 ctF8), slF8⟩)
    (cF8 : PySem.W.codeIn K cdF8 "answer_call" = true)
    (kF8 : PySem.W.keepIn K (.ref fF8) = true)
    (aF9 : PySem.W.nsIn K mainGlobals "answers" = some (some (.ref fF9)))
    (lF9 : K.lookup fF9 = some ⟨ocF9, odF9, .func (PySem.W.fnOf "answers" "answers" (defArgs (top 38)) (defBody (top 38)) (defScope (top 38)) .none kVF9 dcF9 pmF9 anF9 cdF9 ctF9), slF9⟩)
    (cF9 : PySem.W.codeIn K cdF9 "answers" = true)
    (kF9 : PySem.W.keepIn K (.ref fF9) = true)
    (aC : PySem.W.nsIn K mainGlobals "Chip" = some (some (.ref C)))
    (pgC : PySem.W.plainGet K C Str.empty = true)
    (hdC : PySem.W.hasDictIn K C = true)
    (poC : PySem.W.plainOver K C = true)
    (saC : PySem.W.findIn K (.ref C) "__setattr__" = some (some (.builtin "object.__setattr__")))
    (mkC : PySem.W.makesIn K C = true)
    (kcC : PySem.W.keepIn K (.ref C) = true)
    (nC0 : PySem.W.findIn K (.ref C) "ident" = some none)
    (nC1 : PySem.W.findIn K (.ref C) "width" = some none)
    (nC2 : PySem.W.findIn K (.ref C) "has_id" = some none)
    (nC3 : PySem.W.findIn K (.ref C) "cell_nets" = some none)
    (nC4 : PySem.W.findIn K (.ref C) "cell_drives" = some none)
    (nC5 : PySem.W.findIn K (.ref C) "cell_bits" = some none)
    (nC6 : PySem.W.findIn K (.ref C) "data" = some none)
    (nC7 : PySem.W.findIn K (.ref C) "new_instruction" = some none)
    (nC8 : PySem.W.findIn K (.ref C) "instruction" = some none)
    (aC0 : PySem.W.findIn K (.ref C) "__init__" = some (some (.ref fC0)))
    (lC0 : K.lookup fC0 = some ⟨ocC0, odC0, .func (PySem.W.fnOf "__init__" "Chip.__init__" (defArgs (sC 0)) (defBody (sC 0)) (defScope (sC 0)) .none kVC0 dcC0 pmC0 anC0 cdC0 ctC0), slC0⟩)
    (cC0 : PySem.W.codeIn K cdC0 "Chip.__init__" = true)
    (kC0 : PySem.W.keepIn K (.ref fC0) = true)
    (iC0 : PySem.W.isFn K (.ref fC0) = true)
    (aC1 : PySem.W.findIn K (.ref C) "reset_instruction" = some (some (.ref fC1)))
    (lC1 : K.lookup fC1 = some ⟨ocC1, odC1, .func (PySem.W.fnOf "reset_instruction" "Chip.reset_instruction" (defArgs (sC 1)) (defBody (sC 1)) (defScope (sC 1)) .none kVC1 dcC1 pmC1 anC1 cdC1 ctC1), slC1⟩)
    (cC1 : PySem.W.codeIn K cdC1 "Chip.reset_instruction" = true)
    (kC1 : PySem.W.keepIn K (.ref fC1) = true)
    (iC1 : PySem.W.isFn K (.ref fC1) = true)
    (aC2 : PySem.W.findIn K (.ref C) "reset" = some (some (.ref fC2)))
    (lC2 : K.lookup fC2 = some ⟨ocC2, odC2, .func (PySem.W.fnOf "reset" "Chip.reset" (defArgs (sC 2)) (defBody (sC 2)) (defScope (sC 2)) .none kVC2 dcC2 pmC2 anC2 cdC2 ctC2), slC2⟩)
    (cC2 : PySem.W.codeIn K cdC2 "Chip.reset" = true)
    (kC2 : PySem.W.keepIn K (.ref fC2) = true)
    (iC2 : PySem.W.isFn K (.ref fC2) = true)
    (aC3 : PySem.W.findIn K (.ref C) "take_data" = some (some (.ref fC3)))
    (lC3 : K.lookup fC3 = some ⟨ocC3, odC3, .func (PySem.W.fnOf "take_data" "Chip.take_data" (defArgs (sC 3)) (defBody (sC 3)) (defScope (sC 3)) .none kVC3 dcC3 pmC3 anC3 cdC3 ctC3), slC3⟩)
    (cC3 : PySem.W.codeIn K cdC3 "Chip.take_data" = true)
    (kC3 : PySem.W.keepIn K (.ref fC3) = true)
    (iC3 : PySem.W.isFn K (.ref fC3) = true)
    (aC4 : PySem.W.findIn K (.ref C) "seen_by_cells" = some (some (.ref fC4)))
    (lC4 : K.lookup fC4 = some ⟨ocC4, odC4, .func (PySem.W.fnOf "seen_by_cells" "Chip.seen_by_cells" (defArgs (sC 4)) (defBody (sC 4)) (defScope (sC 4)) .none kVC4 dcC4 pmC4 anC4 cdC4 ctC4), slC4⟩)
    (cC4 : PySem.W.codeIn K cdC4 "Chip.seen_by_cells" = true)
    (kC4 : PySem.W.keepIn K (.ref fC4) = true)
    (iC4 : PySem.W.isFn K (.ref fC4) = true)
    (aC5 : PySem.W.findIn K (.ref C) "shift_data" = some (some (.ref fC5)))
    (lC5 : K.lookup fC5 = some ⟨ocC5, odC5, .func (PySem.W.fnOf "shift_data" "Chip.shift_data" (defArgs (sC 5)) (defBody (sC 5)) (defScope (sC 5)) .none kVC5 dcC5 pmC5 anC5 cdC5 ctC5), slC5⟩)
    (cC5 : PySem.W.codeIn K cdC5 "Chip.shift_data" = true)
    (kC5 : PySem.W.keepIn K (.ref fC5) = true)
    (iC5 : PySem.W.isFn K (.ref fC5) = true)
    (aC6 : PySem.W.findIn K (.ref C) "set_data" = some (some (.ref fC6)))
    (lC6 : K.lookup fC6 = some ⟨ocC6, odC6, .func (PySem.W.fnOf "set_data" "Chip.set_data" (defArgs (sC 6)) (defBody (sC 6)) (defScope (sC 6)) .none kVC6 dcC6 pmC6 anC6 cdC6 ctC6), slC6⟩)
    (cC6 : PySem.W.codeIn K cdC6 "Chip.set_data" = true)
    (kC6 : PySem.W.keepIn K (.ref fC6) = true)
    (iC6 : PySem.W.isFn K (.ref fC6) = true)
    (aC7 : PySem.W.findIn K (.ref C) "take_instruction" = some (some (.ref fC7)))
    (lC7 : K.lookup fC7 = some ⟨ocC7, odC7, .func (PySem.W.fnOf "take_instruction" "Chip.take_instruction" (defArgs (sC 7)) (defBody (sC 7)) (defScope (sC 7)) .none kVC7 dcC7 pmC7 anC7 cdC7 ctC7), slC7⟩)
    (cC7 : PySem.W.codeIn K cdC7 "Chip.take_instruction" = true)
    (kC7 : PySem.W.keepIn K (.ref fC7) = true)
    (iC7 : PySem.W.isFn K (.ref fC7) = true)
    (aC8 : PySem.W.findIn K (.ref C) "shift_instruction" = some (some (.ref fC8)))
    (lC8 : K.lookup fC8 = some ⟨ocC8, odC8, .func (PySem.W.fnOf "shift_instruction" "Chip.shift_instruction" (defArgs (sC 8)) (defBody (sC 8)) (defScope (sC 8)) .none kVC8 dcC8 pmC8 anC8 cdC8 ctC8), slC8⟩)
    (cC8 : PySem.W.codeIn K cdC8 "Chip.shift_instruction" = true)
    (kC8 : PySem.W.keepIn K (.ref fC8) = true)
    (iC8 : PySem.W.isFn K (.ref fC8) = true)
    (aC9 : PySem.W.findIn K (.ref C) "set_instruction" = some (some (.ref fC9)))
    (lC9 : K.lookup fC9 = some ⟨ocC9, odC9, .func (PySem.W.fnOf "set_instruction" "Chip.set_instruction" (defArgs (sC 9)) (defBody (sC 9)) (defScope (sC 9)) .none kVC9 dcC9 pmC9 anC9 cdC9 ctC9), slC9⟩)
    (cC9 : PySem.W.codeIn K cdC9 "Chip.set_instruction" = true)
    (kC9 : PySem.W.keepIn K (.ref fC9) = true)
    (iC9 : PySem.W.isFn K (.ref fC9) = true)
    (aC10 : PySem.W.findIn K (.ref C) "nets_driven_to_0" = some (some (.ref fC10)))
    (lC10 : K.lookup fC10 = some ⟨ocC10, odC10, .func (PySem.W.fnOf "nets_driven_to_0" "Chip.nets_driven_to_0" (defArgs (sC 10)) (defBody (sC 10)) (defScope (sC 10)) .none kVC10 dcC10 pmC10 anC10 cdC10 ctC10), slC10⟩)
    (cC10 : PySem.W.codeIn K cdC10 "Chip.nets_driven_to_0" = true)
    (kC10 : PySem.W.keepIn K (.ref fC10) = true)
    (iC10 : PySem.W.isFn K (.ref fC10) = true)
    (aB : PySem.W.nsIn K mainGlobals "Board" = some (some (.ref B)))
    (pgB : PySem.W.plainGet K B Str.empty = true)
    (hdB : PySem.W.hasDictIn K B = true)
    (poB : PySem.W.plainOver K B = true)
    (saB : PySem.W.findIn K (.ref B) "__setattr__" = some (some (.builtin "object.__setattr__")))
    (mkB : PySem.W.makesIn K B = true)
    (kcB : PySem.W.keepIn K (.ref B) = true)
    (nB0 : PySem.W.findIn K (.ref B) "state" = some none)
    (nB1 : PySem.W.findIn K (.ref B) "chips" = some none)
    (nB2 : PySem.W.findIn K (.ref B) "joined" = some none)
    (nB3 : PySem.W.findIn K (.ref B) "held" = some none)
    (aB0 : PySem.W.findIn K (.ref B) "__init__" = some (some (.ref fB0)))
    (lB0 : K.lookup fB0 = some ⟨ocB0, odB0, .func (PySem.W.fnOf "__init__" "Board.__init__" (defArgs (sB 0)) (defBody (sB 0)) (defScope (sB 0)) .none kVB0 dcB0 pmB0 anB0 cdB0 ctB0), slB0⟩)
    (cB0 : PySem.W.codeIn K cdB0 "Board.__init__" = true)
    (kB0 : PySem.W.keepIn K (.ref fB0) = true)
    (iB0 : PySem.W.isFn K (.ref fB0) = true)
    (aB1 : PySem.W.findIn K (.ref B) "start" = some (some (.ref fB1)))
    (lB1 : K.lookup fB1 = some ⟨ocB1, odB1, .func (PySem.W.fnOf "start" "Board.start" (defArgs (sB 1)) (defBody (sB 1)) (defScope (sB 1)) .none kVB1 dcB1 pmB1 anB1 cdB1 ctB1), slB1⟩)
    (cB1 : PySem.W.codeIn K cdB1 "Board.start" = true)
    (kB1 : PySem.W.keepIn K (.ref fB1) = true)
    (iB1 : PySem.W.isFn K (.ref fB1) = true)
    (aB2 : PySem.W.findIn K (.ref B) "clock" = some (some (.ref fB2)))
    (lB2 : K.lookup fB2 = some ⟨ocB2, odB2, .func (PySem.W.fnOf "clock" "Board.clock" (defArgs (sB 2)) (defBody (sB 2)) (defScope (sB 2)) .none kVB2 dcB2 pmB2 anB2 cdB2 ctB2), slB2⟩)
    (cB2 : PySem.W.codeIn K cdB2 "Board.clock" = true)
    (kB2 : PySem.W.keepIn K (.ref fB2) = true)
    (iB2 : PySem.W.isFn K (.ref fB2) = true)
    (aB3 : PySem.W.findIn K (.ref B) "act_on_each_chip" = some (some (.ref fB3)))
    (lB3 : K.lookup fB3 = some ⟨ocB3, odB3, .func (PySem.W.fnOf "act_on_each_chip" "Board.act_on_each_chip" (defArgs (sB 3)) (defBody (sB 3)) (defScope (sB 3)) .none kVB3 dcB3 pmB3 anB3 cdB3 ctB3), slB3⟩)
    (cB3 : PySem.W.codeIn K cdB3 "Board.act_on_each_chip" = true)
    (kB3 : PySem.W.keepIn K (.ref fB3) = true)
    (iB3 : PySem.W.isFn K (.ref fB3) = true)
    (aB4 : PySem.W.findIn K (.ref B) "take_data" = some (some (.ref fB4)))
    (lB4 : K.lookup fB4 = some ⟨ocB4, odB4, .func (PySem.W.fnOf "take_data" "Board.take_data" (defArgs (sB 4)) (defBody (sB 4)) (defScope (sB 4)) .none kVB4 dcB4 pmB4 anB4 cdB4 ctB4), slB4⟩)
    (cB4 : PySem.W.codeIn K cdB4 "Board.take_data" = true)
    (kB4 : PySem.W.keepIn K (.ref fB4) = true)
    (iB4 : PySem.W.isFn K (.ref fB4) = true)
    (aB5 : PySem.W.findIn K (.ref B) "shift_data" = some (some (.ref fB5)))
    (lB5 : K.lookup fB5 = some ⟨ocB5, odB5, .func (PySem.W.fnOf "shift_data" "Board.shift_data" (defArgs (sB 5)) (defBody (sB 5)) (defScope (sB 5)) .none kVB5 dcB5 pmB5 anB5 cdB5 ctB5), slB5⟩)
    (cB5 : PySem.W.codeIn K cdB5 "Board.shift_data" = true)
    (kB5 : PySem.W.keepIn K (.ref fB5) = true)
    (iB5 : PySem.W.isFn K (.ref fB5) = true)
    (aB6 : PySem.W.findIn K (.ref B) "shift_instructions" = some (some (.ref fB6)))
    (lB6 : K.lookup fB6 = some ⟨ocB6, odB6, .func (PySem.W.fnOf "shift_instructions" "Board.shift_instructions" (defArgs (sB 6)) (defBody (sB 6)) (defScope (sB 6)) .none kVB6 dcB6 pmB6 anB6 cdB6 ctB6), slB6⟩)
    (cB6 : PySem.W.codeIn K cdB6 "Board.shift_instructions" = true)
    (kB6 : PySem.W.keepIn K (.ref fB6) = true)
    (iB6 : PySem.W.isFn K (.ref fB6) = true)
    (aB7 : PySem.W.findIn K (.ref B) "levels" = some (some (.ref fB7)))
    (lB7 : K.lookup fB7 = some ⟨ocB7, odB7, .func (PySem.W.fnOf "levels" "Board.levels" (defArgs (sB 7)) (defBody (sB 7)) (defScope (sB 7)) .none kVB7 dcB7 pmB7 anB7 cdB7 ctB7), slB7⟩)
    (cB7 : PySem.W.codeIn K cdB7 "Board.levels" = true)
    (kB7 : PySem.W.keepIn K (.ref fB7) = true)
    (iB7 : PySem.W.isFn K (.ref fB7) = true)
    (aB8 : PySem.W.findIn K (.ref B) "net" = some (some (.ref fB8)))
    (lB8 : K.lookup fB8 = some ⟨ocB8, odB8, .func (PySem.W.fnOf "net" "Board.net" (defArgs (sB 8)) (defBody (sB 8)) (defScope (sB 8)) .none kVB8 dcB8 pmB8 anB8 cdB8 ctB8), slB8⟩)
    (cB8 : PySem.W.codeIn K cdB8 "Board.net" = true)
    (kB8 : PySem.W.keepIn K (.ref fB8) = true)
    (iB8 : PySem.W.isFn K (.ref fB8) = true)
    (aR : PySem.W.nsIn K mainGlobals "Reader" = some (some (.ref R)))
    (pgR : PySem.W.plainGet K R Str.empty = true)
    (hdR : PySem.W.hasDictIn K R = true)
    (poR : PySem.W.plainOver K R = true)
    (saR : PySem.W.findIn K (.ref R) "__setattr__" = some (some (.builtin "object.__setattr__")))
    (mkR : PySem.W.makesIn K R = true)
    (kcR : PySem.W.keepIn K (.ref R) = true)
    (nR0 : PySem.W.findIn K (.ref R) "calls" = some none)
    (nR1 : PySem.W.findIn K (.ref R) "place" = some none)
    (aR0 : PySem.W.findIn K (.ref R) "__init__" = some (some (.ref fR0)))
    (lR0 : K.lookup fR0 = some ⟨ocR0, odR0, .func (PySem.W.fnOf "__init__" "Reader.__init__" (defArgs (sR 0)) (defBody (sR 0)) (defScope (sR 0)) .none kVR0 dcR0 pmR0 anR0 cdR0 ctR0), slR0⟩)
    (cR0 : PySem.W.codeIn K cdR0 "Reader.__init__" = true)
    (kR0 : PySem.W.keepIn K (.ref fR0) = true)
    (iR0 : PySem.W.isFn K (.ref fR0) = true)
    (aR1 : PySem.W.findIn K (.ref R) "at_end" = some (some (.ref fR1)))
    (lR1 : K.lookup fR1 = some ⟨ocR1, odR1, .func (PySem.W.fnOf "at_end" "Reader.at_end" (defArgs (sR 1)) (defBody (sR 1)) (defScope (sR 1)) .none kVR1 dcR1 pmR1 anR1 cdR1 ctR1), slR1⟩)
    (cR1 : PySem.W.codeIn K cdR1 "Reader.at_end" = true)
    (kR1 : PySem.W.keepIn K (.ref fR1) = true)
    (iR1 : PySem.W.isFn K (.ref fR1) = true)
    (aR2 : PySem.W.findIn K (.ref R) "take_number" = some (some (.ref fR2)))
    (lR2 : K.lookup fR2 = some ⟨ocR2, odR2, .func (PySem.W.fnOf "take_number" "Reader.take_number" (defArgs (sR 2)) (defBody (sR 2)) (defScope (sR 2)) .none kVR2 dcR2 pmR2 anR2 cdR2 ctR2), slR2⟩)
    (cR2 : PySem.W.codeIn K cdR2 "Reader.take_number" = true)
    (kR2 : PySem.W.keepIn K (.ref fR2) = true)
    (iR2 : PySem.W.isFn K (.ref fR2) = true)
    (aR3 : PySem.W.findIn K (.ref R) "take_row" = some (some (.ref fR3)))
    (lR3 : K.lookup fR3 = some ⟨ocR3, odR3, .func (PySem.W.fnOf "take_row" "Reader.take_row" (defArgs (sR 3)) (defBody (sR 3)) (defScope (sR 3)) .none kVR3 dcR3 pmR3 anR3 cdR3 ctR3), slR3⟩)
    (cR3 : PySem.W.codeIn K cdR3 "Reader.take_row" = true)
    (kR3 : PySem.W.keepIn K (.ref fR3) = true)
    (iR3 : PySem.W.isFn K (.ref fR3) = true) :
    ∃ fd : FuncData, (∀ (s : Shared) (us : List Value), us.length = (["calls"] : List Str).length → BindsTo s fd ⟨us, []⟩ ((["calls"] : List Str).zip us)) ∧ ∀ base : Heap, K.In base → base.Ns mainGlobals mg → FnOk P w K mg base CX0 8 fa fd ["calls"] (spAns K) := by
  have e := hfa.symm.trans (PySem.W.mg_of X G aF9)
  cases e
  have T : Glb mg := glb_mk X G z0 z1 z2 z3 g0 g1 g2 g3 g4 g5 g6 g7 g8 g9 g10 g11 g12 g13 g14 g15 g16 g17 g18 g19 g20 g21 g22 g23
  have tab : Tab K nx := tab_mk lT lT0 lT1 lT2 lT3 lT4 lT5 lT6 lT7 lT8 lT9 lT10 lT11 lT12 lT13 lT14 lT15
  have YC := cc_mk pgC hdC poC saC nC0 nC1 nC2 nC3 nC4 nC5 nC6 nC7 nC8
  have YB := cb_mk pgB hdB poB saB nB0 nB1 nB2 nB3
  have YR := cr_mk pgR hdR poR saR nR0 nR1
  refine ⟨_, ?_, fun base _ _ => whole T (PySem.W.mg_of X G aT) tab (dF0 lF0 cF0 kF0) (PySem.W.mg_of X G aF0) (dF1 lF1 cF1 kF1) (PySem.W.mg_of X G aF1) (dF2 lF2 cF2 kF2) (PySem.W.mg_of X G aF2) (dF3 lF3 cF3 kF3) (PySem.W.mg_of X G aF3) (dF4 lF4 cF4 kF4) (PySem.W.mg_of X G aF4) (dF5 lF5 cF5 kF5) (PySem.W.mg_of X G aF5) (dF6 lF6 cF6 kF6) (PySem.W.mg_of X G aF6) (dF7 lF7 cF7 kF7) (PySem.W.mg_of X G aF7) (dF8 lF8 cF8 kF8) (PySem.W.mg_of X G aF8) (fun_mk lF9 cF9 kF9) YC (PySem.W.mg_of X G aC) ⟨mkC, aC0, iC0, kcC⟩ (dC0 lC0 cC0 kC0) (dC1 lC1 cC1 kC1) ⟨aC1, iC1, kC1⟩ (dC2 lC2 cC2 kC2) ⟨aC2, iC2, kC2⟩ (dC3 lC3 cC3 kC3) ⟨aC3, iC3, kC3⟩ (dC4 lC4 cC4 kC4) ⟨aC4, iC4, kC4⟩ (dC5 lC5 cC5 kC5) ⟨aC5, iC5, kC5⟩ (dC6 lC6 cC6 kC6) ⟨aC6, iC6, kC6⟩ (dC7 lC7 cC7 kC7) ⟨aC7, iC7, kC7⟩ (dC8 lC8 cC8 kC8) ⟨aC8, iC8, kC8⟩ (dC9 lC9 cC9 kC9) ⟨aC9, iC9, kC9⟩ (dC10 lC10 cC10 kC10) ⟨aC10, iC10, kC10⟩ YB (PySem.W.mg_of X G aB) ⟨mkB, aB0, iB0, kcB⟩ (dB0 lB0 cB0 kB0) (dB1 lB1 cB1 kB1) ⟨aB1, iB1, kB1⟩ (dB2 lB2 cB2 kB2) ⟨aB2, iB2, kB2⟩ (dB3 lB3 cB3 kB3) ⟨aB3, iB3, kB3⟩ (dB4 lB4 cB4 kB4) ⟨aB4, iB4, kB4⟩ (dB5 lB5 cB5 kB5) ⟨aB5, iB5, kB5⟩ (dB6 lB6 cB6 kB6) ⟨aB6, iB6, kB6⟩ (dB7 lB7 cB7 kB7) ⟨aB7, iB7, kB7⟩ (dB8 lB8 cB8 kB8) ⟨aB8, iB8, kB8⟩ YR (PySem.W.mg_of X G aR) ⟨mkR, aR0, iR0, kcR⟩ (dR0 lR0 cR0 kR0) (dR1 lR1 cR1 kR1) ⟨aR1, iR1, kR1⟩ (dR2 lR2 cR2 kR2) ⟨aR2, iR2, kR2⟩ (dR3 lR3 cR3 kR3) ⟨aR3, iR3, kR3⟩⟩
  exact fun s us hu => match us, hu with | [_], _ => .of_eq rfl
theorem calls_of {K : PySem.W.Frag} {H : Hp} {a : Addr} {l : List Int} (hO : OnlyF H) (h : SqL K H a (l.map V.int)) : CallsAt K H a (vi l) := by
  rcases h with (h | h) | h
  · rcases hO a with z | ⟨o, u, z⟩
    · rw [h] at z; cases z
    · rw [h] at z; cases z
  · exact .inl h
  · exact .inr h
end Cc

end
open PySem PySem.W PyProof.Rows
set_option Elab.async false
set_option maxRecDepth 100000 in
set_option maxHeartbeats 0 in
theorem PySem.Challenge.cw_chipchain_s01_answers_holds : PySem.Challenge.rw_chipchain_s01_answers.Holds := by
  w_on; k_headS; (case hw => exact ⟨[.list [.int 0, .int 0, .int 0, .int 0, .int 0, .int 0, .int 0]], by decide +kernel, by decide +kernel⟩)
  k_fillS
  refine L2.walk_specK (r := PySem.Challenge.rw_chipchain_s01_answers) (k := 8) (CX := L2.CX0) (ps := ["calls"]) (sp := Cc.spAns) (by decide +kernel) rfl rfl ⟨rfl, by decide, by decide⟩ (fun w h Y => PySem.W.kIn_of Y) ?F ?S (fun _ _ _ _ z => z)
  case F =>
    intro w mg fa h Y KX G hmg
    refine' Cc.fin KX G hmg ?q_z0 ?q_z1 ?q_z2 ?q_z3 ?q_g0 ?q_g1 ?q_g2 ?q_g3 ?q_g4 ?q_g5 ?q_g6 ?q_g7 ?q_g8 ?q_g9 ?q_g10 ?q_g11 ?q_g12 ?q_g13 ?q_g14 ?q_g15 ?q_g16 ?q_g17 ?q_g18 ?q_g19 ?q_g20 ?q_g21 ?q_g22 ?q_g23 ?q_aT ?q_lT ?q_lT0 ?q_lT1 ?q_lT2 ?q_lT3 ?q_lT4 ?q_lT5 ?q_lT6 ?q_lT7 ?q_lT8 ?q_lT9 ?q_lT10 ?q_lT11 ?q_lT12 ?q_lT13 ?q_lT14 ?q_lT15 ?q_aF0 ?q_lF0 ?q_cF0 ?q_kF0 ?q_aF1 ?q_lF1 ?q_cF1 ?q_kF1 ?q_aF2 ?q_lF2 ?q_cF2 ?q_kF2 ?q_aF3 ?q_lF3 ?q_cF3 ?q_kF3 ?q_aF4 ?q_lF4 ?q_cF4 ?q_kF4 ?q_aF5 ?q_lF5 ?q_cF5 ?q_kF5 ?q_aF6 ?q_lF6 ?q_cF6 ?q_kF6 ?q_aF7 ?q_lF7 ?q_cF7 ?q_kF7 ?q_aF8 ?q_lF8 ?q_cF8 ?q_kF8 ?q_aF9 ?q_lF9 ?q_cF9 ?q_kF9 ?q_aC ?q_pgC ?q_hdC ?q_poC ?q_saC ?q_mkC ?q_kcC ?q_nC0 ?q_nC1 ?q_nC2 ?q_nC3 ?q_nC4 ?q_nC5 ?q_nC6 ?q_nC7 ?q_nC8 ?q_aC0 ?q_lC0 ?q_cC0 ?q_kC0 ?q_iC0 ?q_aC1 ?q_lC1 ?q_cC1 ?q_kC1 ?q_iC1 ?q_aC2 ?q_lC2 ?q_cC2 ?q_kC2 ?q_iC2 ?q_aC3 ?q_lC3 ?q_cC3 ?q_kC3 ?q_iC3 ?q_aC4 ?q_lC4 ?q_cC4 ?q_kC4 ?q_iC4 ?q_aC5 ?q_lC5 ?q_cC5 ?q_kC5 ?q_iC5 ?q_aC6 ?q_lC6 ?q_cC6 ?q_kC6 ?q_iC6 ?q_aC7 ?q_lC7 ?q_cC7 ?q_kC7 ?q_iC7 ?q_aC8 ?q_lC8 ?q_cC8 ?q_kC8 ?q_iC8 ?q_aC9 ?q_lC9 ?q_cC9 ?q_kC9 ?q_iC9 ?q_aC10 ?q_lC10 ?q_cC10 ?q_kC10 ?q_iC10 ?q_aB ?q_pgB ?q_hdB ?q_poB ?q_saB ?q_mkB ?q_kcB ?q_nB0 ?q_nB1 ?q_nB2 ?q_nB3 ?q_aB0 ?q_lB0 ?q_cB0 ?q_kB0 ?q_iB0 ?q_aB1 ?q_lB1 ?q_cB1 ?q_kB1 ?q_iB1 ?q_aB2 ?q_lB2 ?q_cB2 ?q_kB2 ?q_iB2 ?q_aB3 ?q_lB3 ?q_cB3 ?q_kB3 ?q_iB3 ?q_aB4 ?q_lB4 ?q_cB4 ?q_kB4 ?q_iB4 ?q_aB5 ?q_lB5 ?q_cB5 ?q_kB5 ?q_iB5 ?q_aB6 ?q_lB6 ?q_cB6 ?q_kB6 ?q_iB6 ?q_aB7 ?q_lB7 ?q_cB7 ?q_kB7 ?q_iB7 ?q_aB8 ?q_lB8 ?q_cB8 ?q_kB8 ?q_iB8 ?q_aR ?q_pgR ?q_hdR ?q_poR ?q_saR ?q_mkR ?q_kcR ?q_nR0 ?q_nR1 ?q_aR0 ?q_lR0 ?q_cR0 ?q_kR0 ?q_iR0 ?q_aR1 ?q_lR1 ?q_cR1 ?q_kR1 ?q_iR1 ?q_aR2 ?q_lR2 ?q_cR2 ?q_kR2 ?q_iR2 ?q_aR3 ?q_lR3 ?q_cR3 ?q_kR3 ?q_iR3
    (case q_z0 => k_is); (case q_z1 => k_is); (case q_z2 => k_is); (case q_z3 => k_is); (case q_g0 => k_is); (case q_g1 => k_is); (case q_g2 => k_is); (case q_g3 => k_is)
    (case q_g4 => k_is); (case q_g5 => k_is); (case q_g6 => k_is); (case q_g7 => k_is); (case q_g8 => k_is); (case q_g9 => k_is); (case q_g10 => k_is); (case q_g11 => k_is)
    (case q_g12 => k_is); (case q_g13 => k_is); (case q_g14 => k_is); (case q_g15 => k_is); (case q_g16 => k_is); (case q_g17 => k_is); (case q_g18 => k_is); (case q_g19 => k_is)
    (case q_g20 => k_is); (case q_g21 => k_is); (case q_g22 => k_is); (case q_g23 => k_is); (case q_aT => k_is); (case q_lT => k_is); (case q_lT0 => k_is); (case q_lT1 => k_is)
    (case q_lT2 => k_is); (case q_lT3 => k_is); (case q_lT4 => k_is); (case q_lT5 => k_is); (case q_lT6 => k_is); (case q_lT7 => k_is); (case q_lT8 => k_is); (case q_lT9 => k_is)
    (case q_lT10 => k_is); (case q_lT11 => k_is); (case q_lT12 => k_is); (case q_lT13 => k_is); (case q_lT14 => k_is); (case q_lT15 => k_is); (case q_aF0 => k_is); (case q_lF0 => k_is)
    (case q_cF0 => k_is); (case q_kF0 => k_is); (case q_aF1 => k_is); (case q_lF1 => k_is); (case q_cF1 => k_is); (case q_kF1 => k_is); (case q_aF2 => k_is); (case q_lF2 => k_is)
    (case q_cF2 => k_is); (case q_kF2 => k_is); (case q_aF3 => k_is); (case q_lF3 => k_is); (case q_cF3 => k_is); (case q_kF3 => k_is); (case q_aF4 => k_is); (case q_lF4 => k_is)
    (case q_cF4 => k_is); (case q_kF4 => k_is); (case q_aF5 => k_is); (case q_lF5 => k_is); (case q_cF5 => k_is); (case q_kF5 => k_is); (case q_aF6 => k_is); (case q_lF6 => k_is)
    (case q_cF6 => k_is); (case q_kF6 => k_is); (case q_aF7 => k_is); (case q_lF7 => k_is); (case q_cF7 => k_is); (case q_kF7 => k_is); (case q_aF8 => k_is); (case q_lF8 => k_is)
    (case q_cF8 => k_is); (case q_kF8 => k_is); (case q_aF9 => k_is); (case q_lF9 => k_is); (case q_cF9 => k_is); (case q_kF9 => k_is); (case q_aC => k_is); (case q_pgC => k_is)
    (case q_hdC => k_is); (case q_poC => k_is); (case q_saC => k_is); (case q_mkC => k_is); (case q_kcC => k_is); (case q_nC0 => k_is); (case q_nC1 => k_is); (case q_nC2 => k_is)
    (case q_nC3 => k_is); (case q_nC4 => k_is); (case q_nC5 => k_is); (case q_nC6 => k_is); (case q_nC7 => k_is); (case q_nC8 => k_is); (case q_aC0 => k_is); (case q_lC0 => k_is)
    (case q_cC0 => k_is); (case q_kC0 => k_is); (case q_iC0 => k_is); (case q_aC1 => k_is); (case q_lC1 => k_is); (case q_cC1 => k_is); (case q_kC1 => k_is); (case q_iC1 => k_is)
    (case q_aC2 => k_is); (case q_lC2 => k_is); (case q_cC2 => k_is); (case q_kC2 => k_is); (case q_iC2 => k_is); (case q_aC3 => k_is); (case q_lC3 => k_is); (case q_cC3 => k_is)
    (case q_kC3 => k_is); (case q_iC3 => k_is); (case q_aC4 => k_is); (case q_lC4 => k_is); (case q_cC4 => k_is); (case q_kC4 => k_is); (case q_iC4 => k_is); (case q_aC5 => k_is)
    (case q_lC5 => k_is); (case q_cC5 => k_is); (case q_kC5 => k_is); (case q_iC5 => k_is); (case q_aC6 => k_is); (case q_lC6 => k_is); (case q_cC6 => k_is); (case q_kC6 => k_is)
    (case q_iC6 => k_is); (case q_aC7 => k_is); (case q_lC7 => k_is); (case q_cC7 => k_is); (case q_kC7 => k_is); (case q_iC7 => k_is); (case q_aC8 => k_is); (case q_lC8 => k_is)
    (case q_cC8 => k_is); (case q_kC8 => k_is); (case q_iC8 => k_is); (case q_aC9 => k_is); (case q_lC9 => k_is); (case q_cC9 => k_is); (case q_kC9 => k_is); (case q_iC9 => k_is)
    (case q_aC10 => k_is); (case q_lC10 => k_is); (case q_cC10 => k_is); (case q_kC10 => k_is); (case q_iC10 => k_is); (case q_aB => k_is); (case q_pgB => k_is); (case q_hdB => k_is)
    (case q_poB => k_is); (case q_saB => k_is); (case q_mkB => k_is); (case q_kcB => k_is); (case q_nB0 => k_is); (case q_nB1 => k_is); (case q_nB2 => k_is); (case q_nB3 => k_is)
    (case q_aB0 => k_is); (case q_lB0 => k_is); (case q_cB0 => k_is); (case q_kB0 => k_is); (case q_iB0 => k_is); (case q_aB1 => k_is); (case q_lB1 => k_is); (case q_cB1 => k_is)
    (case q_kB1 => k_is); (case q_iB1 => k_is); (case q_aB2 => k_is); (case q_lB2 => k_is); (case q_cB2 => k_is); (case q_kB2 => k_is); (case q_iB2 => k_is); (case q_aB3 => k_is)
    (case q_lB3 => k_is); (case q_cB3 => k_is); (case q_kB3 => k_is); (case q_iB3 => k_is); (case q_aB4 => k_is); (case q_lB4 => k_is); (case q_cB4 => k_is); (case q_kB4 => k_is)
    (case q_iB4 => k_is); (case q_aB5 => k_is); (case q_lB5 => k_is); (case q_cB5 => k_is); (case q_kB5 => k_is); (case q_iB5 => k_is); (case q_aB6 => k_is); (case q_lB6 => k_is)
    (case q_cB6 => k_is); (case q_kB6 => k_is); (case q_iB6 => k_is); (case q_aB7 => k_is); (case q_lB7 => k_is); (case q_cB7 => k_is); (case q_kB7 => k_is); (case q_iB7 => k_is)
    (case q_aB8 => k_is); (case q_lB8 => k_is); (case q_cB8 => k_is); (case q_kB8 => k_is); (case q_iB8 => k_is); (case q_aR => k_is); (case q_pgR => k_is); (case q_hdR => k_is)
    (case q_poR => k_is); (case q_saR => k_is); (case q_mkR => k_is); (case q_kcR => k_is); (case q_nR0 => k_is); (case q_nR1 => k_is); (case q_aR0 => k_is); (case q_lR0 => k_is)
    (case q_cR0 => k_is); (case q_kR0 => k_is); (case q_iR0 => k_is); (case q_aR1 => k_is); (case q_lR1 => k_is); (case q_cR1 => k_is); (case q_kR1 => k_is); (case q_iR1 => k_is)
    (case q_aR2 => k_is); (case q_lR2 => k_is); (case q_cR2 => k_is); (case q_kR2 => k_is); (case q_iR2 => k_is); (case q_aR3 => k_is); (case q_lR3 => k_is); (case q_cR3 => k_is)
    (case q_kR3 => k_is); (case q_iR3 => k_is)
  case S =>
    intro K H xs a hO hwi hask hx
    cases hx with
    | cons h1 h2 =>
      cases h2
      cases h1 with
      | lst hs ha =>
        have e := L2.ints_dw a.1 _ ha
        subst e
        have q : ((Codec.inLen 0 31000 a.1 && a.1.all (Codec.inInt 0 4294967295)) && true) = true := hwi
        rw [Bool.and_eq_true, Bool.and_eq_true] at q
        exact ⟨_, a.1, rfl, Cc.calls_of hO hs, hask, (Codec.inNat_iff.mp q.1.1).2, fun H' p hp => .lst (L2.SqL.of hp) (L2.dw_ints _)⟩
