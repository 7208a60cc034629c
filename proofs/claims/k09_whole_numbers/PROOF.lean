import PyProof.Rows.All
import Wide.All
import OpenK.AllK
import Wide.FinOn
import PyProof.EqAt
import PyProof.EqKinds
import PyProof.TupleCall
import KE.BitLaws
import KE.KLam
import PyProof.Rows.SetFrom
import PyProof.SetRoads
import PyProof.CollectIter
import PyProof.StrBlock2
import PySem.Challenge.RW_bothends_k09_whole_numbers
set_option Elab.async false
set_option linter.all false
set_option maxRecDepth 100000
/-! THE HAND LAYER, for ints, bools, texts, own classes, lists, tuples, dicts, comprehensions, walks over dicts, enumerate, zip, reversed, texts, calls, loops. Paste it whole ahead of your own text; what your proof does not reach may be deleted. -/
namespace L2
open PySem PySem.Spec PyProof.Rows

/-- a key: an int or a str -/
abbrev Key := Sum Int Str
def keyIs : Key → Value → Bool
  | .inl k, v => Value.isInt k v
  | .inr x, v => Value.isStrOf x v
def keyH (w : World) : Key → Int
  | .inl k => hashInt k
  | .inr x => hashStr w x
theorem keyIs_shape : ∀ {k : Key} {v : Value}, keyIs k v = true → (∃ i t, k = Sum.inl i ∧ v = Value.int i t) ∨ (∃ x t, k = Sum.inr x ∧ v = Value.str x t)
  | .inl i, v, h => by
    obtain ⟨t, e⟩ := Value.isInt_shape (k := i) (v := v) h
    exact .inl ⟨i, t, rfl, e⟩
  | .inr x, v, h => by
    obtain ⟨t, e⟩ := Value.isStrOf_shape (x := x) (v := v) h
    exact .inr ⟨x, t, rfl, e⟩
theorem key_ll (a b : Int) : decide ((Sum.inl a : Key) = Sum.inl b) = (a == b) := by
  by_cases e : a = b
  · subst e; simp
  · have h : ¬ (Sum.inl a : Key) = Sum.inl b := fun q => e (Sum.inl.inj q)
    rw [decide_eq_false h]
    exact (beq_eq_false_iff_ne.mpr e).symm
theorem key_rr (a b : Str) : decide ((Sum.inr a : Key) = Sum.inr b) = decide (a = b) := by
  by_cases e : a = b
  · subst e; simp
  · have h : ¬ (Sum.inr a : Key) = Sum.inr b := fun q => e (Sum.inr.inj q)
    rw [decide_eq_false h, decide_eq_false e]
theorem key_lr (a : Int) (b : Str) : decide ((Sum.inl a : Key) = Sum.inr b) = false := decide_eq_false (fun q => nomatch q)
theorem key_rl (a : Str) (b : Int) : decide ((Sum.inr a : Key) = Sum.inl b) = false := decide_eq_false (fun q => nomatch q)

def mixKind (prog : Program) (w : World) : PySem.KeyKind prog w Key where
  is := keyIs
  hash := keyH w
  inj := fun v a b ha hb => by
    rcases keyIs_shape ha with ⟨i, t, rfl, rfl⟩ | ⟨x, t, rfl, rfl⟩
    · rcases keyIs_shape hb with ⟨j, u, rfl, e⟩ | ⟨y, u, rfl, e⟩
      · injection e with e1 _; rw [e1]
      · exact nomatch e
    · rcases keyIs_shape hb with ⟨j, u, rfl, e⟩ | ⟨y, u, rfl, e⟩
      · exact nomatch e
      · injection e with e1 _; rw [e1]
  byValue := fun k v h => by
    rcases keyIs_shape h with ⟨i, t, rfl, rfl⟩ | ⟨x, t, rfl, rfl⟩ <;> rfl
  pyHash := fun hv h => by
    rcases keyIs_shape hv with ⟨i, t, rfl, rfl⟩ | ⟨x, t, rfl, rfl⟩
    · exact wpAny_pyHash_int h
    · exact wpAny_pyHash_str h
  eqBool := fun hu hv h => by
    rcases keyIs_shape hu with ⟨i, t, rfl, rfl⟩ | ⟨x, t, rfl, rfl⟩
    · rcases keyIs_shape hv with ⟨j, u, rfl, rfl⟩ | ⟨y, u, rfl, rfl⟩
      · rw [key_ll] at h; exact wpAny_eqBool_int h
      · rw [key_lr] at h; exact SeqAt.EqAt.int_str i t y u _ _ _ _ h
    · rcases keyIs_shape hv with ⟨j, u, rfl, rfl⟩ | ⟨y, u, rfl, rfl⟩
      · rw [key_rl] at h; exact SeqAt.EqAt.str_int x t j u _ _ _ _ h
      · rw [key_rr] at h; exact wpAny_eqBool_str h
  «strs» := fun k x t v h => by
    rcases keyIs_shape h with ⟨i, u, rfl, e⟩ | ⟨y, u, rfl, e⟩
    · exact nomatch e
    · injection e with e1 _
      subst e1
      cases v <;> rfl

end L2

namespace L2
open PySem PySem.Spec PyProof.Rows

/-- a value, without the heap -/
inductive V where
  | non | bl (b : Bool) | int (i : Int) | str (x : Str) | byt (b : Array UInt8) | flt (b : UInt64) | ref (a : Addr) | ty (n : String)
  deriving DecidableEq

def RelV : V → Value → Prop
  | .non, u => u = Value.none
  | .bl b, u => u = Value.bool b
  | .int i, u => ∃ t, u = Value.int i t
  | .str x, u => ∃ t, u = Value.str x t
  | .byt b, u => ∃ t, u = Value.bytes b t
  | .flt b, u => ∃ t, u = Value.float b t
  | .ref a, u => u = Value.ref a
  | .ty n, u => u = Value.type n

abbrev Vals : List V → List Value → Prop := Paired RelV
theorem Vals.length {xs : List V} {us : List Value} (r : Vals xs us) : xs.length = us.length := Paired.length r
theorem Vals.get : ∀ {xs : List V} {us : List Value} {i : Nat} {x : V}, Vals xs us → xs[i]? = some x → ∃ u, us[i]? = some u ∧ RelV x u
  | _, _, _, _, .nil, e => by simp at e
  | _, _, 0, _, .cons r _, e => by simp at e; subst e; exact ⟨_, rfl, r⟩
  | _, _, i + 1, x, .cons _ t, e => by
    obtain ⟨u, h1, h2⟩ := Vals.get (i := i) (x := x) t (by simpa using e)
    exact ⟨u, by simpa using h1, h2⟩
theorem Vals.set {x : V} {u : Value} (r : RelV x u) : ∀ {xs : List V} {us : List Value} (i : Nat), Vals xs us → Vals (xs.set i x) (us.set i u)
  | _, _, _, .nil => .nil
  | _, _, 0, .cons _ t => .cons r t
  | _, _, i + 1, .cons q t => .cons q (Vals.set r i t)
theorem Vals.append : ∀ {xs ys : List V} {us ws : List Value}, Vals xs us → Vals ys ws → Vals (xs ++ ys) (us ++ ws)
  | _, _, _, _, .nil, s => s
  | _, _, _, _, .cons r t, s => .cons r (Vals.append t s)
theorem Vals.take : ∀ {xs : List V} {us : List Value} (n : Nat), Vals xs us → Vals (xs.take n) (us.take n)
  | _, _, 0, _ => .nil
  | _, _, _ + 1, .nil => .nil
  | _, _, n + 1, .cons r t => .cons r (Vals.take n t)
theorem Vals.drop : ∀ {xs : List V} {us : List Value} (n : Nat), Vals xs us → Vals (xs.drop n) (us.drop n)
  | _, _, 0, r => r
  | _, _, _ + 1, .nil => .nil
  | _, _, n + 1, .cons _ t => Vals.drop n t
theorem Vals.none_of : ∀ {xs : List V} {us : List Value} {i : Nat}, Vals xs us → xs[i]? = none → us[i]? = none := fun {xs us i} r e => by
  have h1 := r.length
  have h2 : xs.length ≤ i := List.getElem?_eq_none_iff.mp e
  exact List.getElem?_eq_none_iff.mpr (by omega)

def RelO : Option V → Option Value → Prop
  | some v, some u => RelV v u
  | none, none => True
  | _, _ => False
def KV {κ : Type} : List (κ × V) → List (κ × Value) → Prop := Paired fun (p : κ × V) (q : κ × Value) => p.1 = q.1 ∧ RelV p.2 q.2

/-- a key of a dict (00_mix): an int or a text -/
def kV : Key → V
  | .inl i => .int i
  | .inr x => .str x

/-- what stands at a tracked address -/
inductive HO where
  /-- a list -/
  | lst (xs : List V)
  /-- a tuple (never changes) -/
  | tup (xs : List V)
  /-- a dict whose keys are ints and texts; one whose keys are tuples of ints and texts (the empty one is both) -/
  | dK (kvs : List (Key × V)) | dT (kvs : List (List Key × V))
  /-- a set of ints: its members, its size -/
  | set (S : Int → Bool) (n : Nat)
  /-- an instance of the class at C, its dict at dx, its attributes -/
  | ins (C dx : Addr) (fs : List (Str × V))
  /-- the dict of the instance at x -/
  | own (x : Addr)
  /-- the dict of an exception -/
  | xd (fs : List (Str × V))
  /-- a bound method, f of x -/
  | met (f x : Addr)
  /-- a range object lo, lo + 1, .. below hi -/
  | rng (lo hi : Int)
  /-- a thing that is known to the object (the script; a dict while a loop walks it): read, never written while it is so -/
  | frz (o : Obj) (u : HO)
  /-- a code object's table -/
  | tbl (ps : Array Value)
  /-- any other thing, by what is true of its one object (a def of one's own: SetO a S n := HO.ext fun h => ..) -/
  | ext (φ : Heap → Prop)

abbrev Hp := Addr → Option HO
def upd (H : Hp) (a : Addr) (o : HO) : Hp := fun b => if b = a then some o else H b
theorem upd_same {H : Hp} {a : Addr} {o : HO} : upd H a o a = some o := by unfold upd; rw [if_pos rfl]
theorem upd_ne {H : Hp} {a b : Addr} {o : HO} (h : b ≠ a) : upd H a o b = H b := by unfold upd; rw [if_neg h]
/-- two objects of different content stand apart -/
theorem ne_of {H : Hp} {a b : Addr} {o u : HO} (h : H a = some o) (h' : H b = some u) (d : o ≠ u) : a ≠ b := by
  intro e; subst e; rw [h] at h'; exact d (Option.some.inj h')
theorem ne_of_none {H : Hp} {a b : Addr} {o : HO} (h : H a = some o) (h' : H b = none) : a ≠ b := by
  intro e; subst e; rw [h] at h'; cases h'

section
variable (P : Program) (w : World)
def ObjOk (H : Hp) (h : Heap) (a : Addr) : HO → Prop
  | .lst xs => xs.length ≤ sizeLine ∧ ∃ (its : List Value) (n : Nat), Vals xs its ∧ h.get? a = some { cls := .type "list", data := .seq its.toArray n }
  | .tup xs => xs.length ≤ sizeLine ∧ ∃ its : List Value, Vals xs its ∧ IsTup h a its.toArray
  | .dK kvs => kvs.length ≤ sizeLine ∧ (a == sysModules) = false ∧ ∃ vs, KV kvs vs ∧ h.DictOf (mixKind P w) a vs
  | .dT kvs => kvs.length ≤ sizeLine ∧ (a == sysModules) = false ∧ ∃ xs : List (List Key × Addr × Value),
      Paired (fun (p : List Key × V) (q : List Key × Addr × Value) => p.1 = q.1 ∧ H q.2.1 = some (.tup (p.1.map kV)) ∧ RelV p.2 q.2.2) kvs xs ∧
      ∃ o es ep, h.get? a = some o ∧ o.ExactDict ∧ o.data = .dict es ep ∧ es.toList = xs.map (entryOfKey (tupleKind (mixKind P w))) ∧ (xs.map (·.1)).Nodup
  | .set S n => h.SetOf (intKind P w) a S n
  | .ins C dx fs => H dx = some (.own a) ∧ fs.length ≤ 1000 ∧ dx ≠ a ∧ h.get? a = some (PySem.W.instObj C dx) ∧
      ∃ mA, h.Ns1 dx mA ∧ (∀ f, RelO (fs.lookup f) (mA f)) ∧ PySem.Within mA (fs.map (·.1))
  | .own _ => ∃ o, h.get? a = some o
  | .xd fs => ∃ mA, h.Ns1 a mA ∧ ∀ f, RelO (fs.lookup f) (mA f)
  | .rng lo hi => ∃ t u v, h.get? a = some { cls := .type "range", data := .fields #[.int lo t, .int hi u, .int 1 v] }
  | .frz o u => h.get? a = some o ∧ ObjOk H h a u
  | .tbl ps => h.get? a = some { cls := .none, data := .fields ps }
  | .met f x => h.get? a = some (PySem.W.methodObj (.ref f) (.ref x))
  | .ext φ => φ h ∧ (∃ o, h.get? a = some o) ∧ ∀ h1 h2 : Heap, φ h1 → (∀ o, h1.get? a = some o → h2.get? a = some o) → φ h2
/-- the abstract heap is held -/
def HOk (H : Hp) (h : Heap) : Prop := ∀ a o, H a = some o → ObjOk P w H h a o
end

section
variable {P : Program} {w : World} {H H' : Hp} {h h' : Heap} {a : Addr} {o : HO}
theorem ObjOk.lt (x : ObjOk P w H h a o) : a < h.objs.size := by
  cases o with
  | lst xs => obtain ⟨_, _, _, _, e⟩ := x; exact Heap.lt_size e
  | tup xs => obtain ⟨_, _, _, p⟩ := x; exact p.lt
  | dK kvs => obtain ⟨_, _, _, _, o, _, _, e, _⟩ := x; exact Heap.lt_size e
  | dT kvs => obtain ⟨_, _, _, _, o, _, _, e, _⟩ := x; exact Heap.lt_size e
  | set S n => obtain ⟨o, _, _, _, e, _⟩ := x; exact Heap.lt_size e
  | ins C dx fs => obtain ⟨_, _, _, e, _⟩ := x; exact Heap.lt_size e
  | own y => obtain ⟨_, e⟩ := x; exact Heap.lt_size e
  | xd fs => obtain ⟨_, ⟨_, _, _, e, _⟩, _⟩ := x; exact Heap.lt_size e
  | rng lo hi => obtain ⟨_, _, _, e⟩ := x; exact Heap.lt_size e
  | frz ob u => obtain ⟨e, _⟩ := x; exact Heap.lt_size e
  | tbl ps => exact Heap.lt_size (show h.get? a = some _ from x)
  | met f y => exact Heap.lt_size (show h.get? a = some _ from x)
  | ext φ => obtain ⟨_, ⟨_, e⟩, _⟩ := x; exact Heap.lt_size e
theorem Paired.mapP {α β : Type} {F G : α → β → Prop} : ∀ {l₁ : List α} {l₂ : List β}, Paired F l₁ l₂ → (∀ a b, F a b → G a b) → Paired G l₁ l₂
  | _, _, .nil, _ => .nil
  | _, _, .cons r t, f => .cons (f _ _ r) (Paired.mapP t f)
/-- what an object's description leans on: its own object, its own dict, the tuples -/
theorem ObjOk.stay (x : ObjOk P w H h a o) (k : ∀ b u, (b = a ∨ H b = some (.own a)) → h.get? b = some u → h'.get? b = some u)
    (ho : ∀ b, H b = some (.own a) → H' b = some (.own a)) (ht : ∀ b xs, H b = some (.tup xs) → H' b = some (.tup xs)) : ObjOk P w H' h' a o := by
  induction o with
  | lst xs => obtain ⟨z, its, n, r, e⟩ := x; exact ⟨z, its, n, r, k _ _ (.inl rfl) e⟩
  | tup xs => obtain ⟨z, its, r, ob, e, c⟩ := x; exact ⟨z, its, r, ob, k _ _ (.inl rfl) e, c⟩
  | dK kvs => obtain ⟨z, y, vs, r, ob, es, ep, e, c⟩ := x; exact ⟨z, y, vs, r, ob, es, ep, k _ _ (.inl rfl) e, c⟩
  | dT kvs =>
    obtain ⟨z, y, xs, r, ob, es, ep, e, c⟩ := x
    exact ⟨z, y, xs, Paired.mapP r fun p q z => ⟨z.1, ht _ _ z.2.1, z.2.2⟩, ob, es, ep, k _ _ (.inl rfl) e, c⟩
  | set S n => obtain ⟨ob, es, ep, t, e, c⟩ := x; exact ⟨ob, es, ep, t, k _ _ (.inl rfl) e, c⟩
  | ins C dx fs =>
    obtain ⟨d, z, ne, e, mA, ⟨od, es, ep, e2, c⟩, r⟩ := x
    exact ⟨ho _ d, z, ne, k _ _ (.inl rfl) e, mA, ⟨od, es, ep, k _ _ (.inr d) e2, c⟩, r⟩
  | own y => obtain ⟨ob, e⟩ := x; exact ⟨ob, k _ _ (.inl rfl) e⟩
  | xd fs => obtain ⟨mA, ⟨od, es, ep, e, c⟩, r⟩ := x; exact ⟨mA, ⟨od, es, ep, k _ _ (.inl rfl) e, c⟩, r⟩
  | rng lo hi => obtain ⟨t, u, v, e⟩ := x; exact ⟨t, u, v, k _ _ (.inl rfl) e⟩
  | frz ob u ih => obtain ⟨e, q⟩ := x; exact ⟨k _ _ (.inl rfl) e, ih q⟩
  | tbl ps =>
    have e : h.get? a = some { cls := .none, data := .fields ps } := x
    show h'.get? a = some { cls := .none, data := .fields ps }
    exact k a _ (.inl rfl) e
  | met f y =>
    have e : h.get? a = some (PySem.W.methodObj (.ref f) (.ref y)) := x
    show h'.get? a = some (PySem.W.methodObj (.ref f) (.ref y))
    exact k a _ (.inl rfl) e
  | ext φ => obtain ⟨p, ⟨o, e⟩, st⟩ := x; exact ⟨st _ _ p fun o q => k _ _ (.inl rfl) q, ⟨o, k _ _ (.inl rfl) e⟩, st⟩
theorem HOk.lt (x : HOk P w H h) (e : H a = some o) : a < h.objs.size := (x a o e).lt
theorem HOk.fresh (x : HOk P w H h) (e : h.objs.size ≤ a) : H a = none := by
  cases q : H a with
  | none => rfl
  | some u => exact absurd (Nat.lt_of_lt_of_le (x.lt q) e) (Nat.lt_irrefl _)
/-- every object of the heap is kept -/
theorem HOk.kept (x : HOk P w H h) (k : ∀ b u, h.get? b = some u → h'.get? b = some u) : HOk P w H h' := fun a o e =>
  (x a o e).stay (fun b u _ q => k b u q) (fun _ q => q) fun _ _ q => q
/-- a new object is laid and tracked -/
theorem HOk.laid (x : HOk P w H h) (k : ∀ b u, h.get? b = some u → h'.get? b = some u) (hp : h.objs.size ≤ a) (new : ObjOk P w (upd H a o) h' a o) : HOk P w (upd H a o) h' := fun b u e => by
  have hn := x.fresh hp
  by_cases hb : b = a
  · subst hb; rw [upd_same] at e; cases e; exact new
  · rw [upd_ne hb] at e
    exact (x b u e).stay (fun c v _ q => k c v q) (fun c q => by rw [upd_ne (ne_of_none q hn)]; exact q) fun c xs q => by rw [upd_ne (ne_of_none q hn)]; exact q
end

/-- what may be read as u: it is u, or a known u -/
def Rd (H : Hp) (a : Addr) (u : HO) : Prop := H a = some u ∨ ∃ o, H a = some (.frz o u)
theorem Rd.of {H : Hp} {a : Addr} {u : HO} (h : H a = some u) : Rd H a u := .inl h
theorem Rd.ok {P : Program} {w : World} {H : Hp} {h : Heap} {a : Addr} {u : HO} (r : Rd H a u) (x : HOk P w H h) : ObjOk P w H h a u := by
  rcases r with r | ⟨o, r⟩
  · exact x a u r
  · obtain ⟨_, q⟩ := x a _ r
    exact q
/-- what may be written -/
def Mut : Option HO → Prop
  | some (.lst _) => True
  | some (.dK _) => True
  | some (.dT _) => True
  | some (.set _ _) => True
  | some (.ins _ _ _) => True
  | some (.ext _) => True
  | _ => False
section
variable {P : Program} {w : World} {H : Hp} {h h' : Heap} {x e : Addr} {o' : HO}
/-- the object at e is changed: x itself, or the dict of the instance x -/
theorem HOk.write (ok : HOk P w H h) (mu : Mut (H x)) (he : e = x ∨ H e = some (.own x)) (k : ∀ b u, b ≠ e → h.get? b = some u → h'.get? b = some u) (heo : ∃ u, h'.get? e = some u)
    (new : ObjOk P w (upd H x o') h' x o') : HOk P w (upd H x o') h' := fun b u q => by
  have nown : ∀ c y, H c = some (.own y) → c ≠ x := fun c y r z => by subst z; rw [r] at mu; exact mu
  have ntup : ∀ c xs, H c = some (.tup xs) → c ≠ x := fun c xs r z => by subst z; rw [r] at mu; exact mu
  by_cases hb : b = x
  · subst hb; rw [upd_same] at q; cases q; exact new
  · rw [upd_ne hb] at q
    by_cases hbe : b = e
    · have q' : H b = some (.own x) := by
        rcases he with z | z
        · exact absurd (hbe.trans z) hb
        · rw [hbe]; exact z
      rw [q] at q'; cases q'
      obtain ⟨v, hv⟩ := heo
      exact ⟨v, by rw [hbe]; exact hv⟩
    · refine (ok b u q).stay (fun c v hc r => k c v ?_ r) (fun c r => by rw [upd_ne (nown c b r)]; exact r) fun c xs r => by rw [upd_ne (ntup c xs r)]; exact r
      rcases hc with rfl | hc
      · exact hbe
      · rintro rfl
        rcases he with z | z
        · exact nown c b hc z
        · rw [hc] at z; cases z; exact hb rfl
end

/-! ### kept unless tracked; of the frames at fs (the callers') the slots may change (an exception that passes writes there); of the records at ex (iterators) nothing is said -/
structure Un (fs ex : List Addr) (H H' : Hp) (h h' : Heap) : Prop where
  keep : ∀ b o, h.get? b = some o → H b = none → b ∉ fs → b ∉ ex → h'.get? b = some o
  slot : ∀ b o, h.get? b = some o → H b = none → b ∈ fs → b ∉ ex → ∃ sl, h'.get? b = some { o with slots := sl }
  free : ∀ b o, h.get? b = some o → H b = none → b ∉ ex → H' b = none
  there : ∀ b o, h.get? b = some o → b ∉ ex → ∃ o', h'.get? b = some o'
  tups : ∀ b xs, H b = some (.tup xs) → H' b = some (.tup xs)
  frzs : ∀ b o u, H b = some (.frz o u) → H' b = some (.frz o u)
  tbls : ∀ b ps, H b = some (.tbl ps) → ∃ more, H' b = some (.tbl (ps ++ more))
section
variable {fs fs' ex ex' : List Addr} {H H1 H2 : Hp} {h h1 h2 h' : Heap} {a x e : Addr} {o : HO}
theorem Un.any (u : Un fs ex H H1 h h1) {b : Addr} {ob : Obj} (q : h.get? b = some ob) (n : H b = none) (hx : b ∉ ex) : ∃ sl, h1.get? b = some { ob with slots := sl } := by
  by_cases hb : b ∈ fs
  · exact u.slot b ob q n hb hx
  · exact ⟨ob.slots, u.keep b ob q n hb hx⟩
theorem Un.trans (a : Un fs ex H H1 h h1) (b : Un fs ex H1 H2 h1 h2) : Un fs ex H H2 h h2 where
  keep := fun c ob q n hc hx => b.keep c ob (a.keep c ob q n hc hx) (a.free c ob q n hx) hc hx
  slot := fun c ob q n hc hx => by
    obtain ⟨sl, e1⟩ := a.slot c ob q n hc hx
    obtain ⟨sl', e2⟩ := b.slot c _ e1 (a.free c ob q n hx) hc hx
    exact ⟨sl', e2⟩
  free := fun c ob q n hx => by
    obtain ⟨o', e1⟩ := a.there c ob q hx
    exact b.free c o' e1 (a.free c ob q n hx) hx
  there := fun c ob q hx => by
    obtain ⟨o', e1⟩ := a.there c ob q hx
    exact b.there c o' e1 hx
  tups := fun c xs q => b.tups c xs (a.tups c xs q)
  frzs := fun c ob xs q => b.frzs c ob xs (a.frzs c ob xs q)
  tbls := fun c ps q => by
    obtain ⟨m1, e1⟩ := a.tbls c ps q
    obtain ⟨m2, e2⟩ := b.tbls c _ e1
    exact ⟨m1 ++ m2, by rw [e2, Array.append_assoc]⟩
theorem Un.kept (k : ∀ b u, h.get? b = some u → h'.get? b = some u) : Un fs ex H H h h' :=
  ⟨fun b ob q _ _ _ => k b ob q, fun b ob q _ _ _ => ⟨ob.slots, k b ob q⟩, fun _ _ _ n _ => n, fun b ob q _ => ⟨ob, k b ob q⟩, fun _ _ q => q, fun _ _ _ q => q, fun _ ps q => ⟨#[], by rw [q]; simp⟩⟩
theorem Un.refl : Un fs ex H H h h := Un.kept fun _ _ q => q
theorem Un.laid (k : ∀ b u, h.get? b = some u → h'.get? b = some u) (hp : h.objs.size ≤ a) (hn : H a = none) : Un fs ex H (upd H a o) h h' where
  keep := fun b u q _ _ _ => k b u q
  slot := fun b u q _ _ _ => ⟨u.slots, k b u q⟩
  free := fun b u q n _ => by rw [upd_ne (Nat.ne_of_lt (Nat.lt_of_lt_of_le (Heap.lt_size q) hp))]; exact n
  there := fun b u q _ => ⟨u, k b u q⟩
  tups := fun b xs q => by rw [upd_ne (ne_of_none q hn)]; exact q
  frzs := fun b u xs q => by rw [upd_ne (ne_of_none q hn)]; exact q
  tbls := fun b ps q => ⟨#[], by rw [upd_ne (ne_of_none q hn), q]; simp⟩
theorem Un.write (mu : Mut (H x)) (he : e = x ∨ H e = some (.own x)) (k : ∀ b u, b ≠ e → h.get? b = some u → h'.get? b = some u) (heo : ∃ u, h'.get? e = some u) : Un fs ex H (upd H x o) h h' := by
  have hx : ∀ b, H b = none → b ≠ x := fun b n z => by subst z; rw [n] at mu; exact mu
  have hb : ∀ b, H b = none → b ≠ e := fun b n z => by
    subst z
    rcases he with r | r
    · exact hx b n r
    · rw [n] at r; cases r
  have hm : ∀ b u, H b = some u → ¬ Mut (some u) → b ≠ x := fun b u q nm z => by subst z; rw [q] at mu; exact nm mu
  refine ⟨fun b u q n _ _ => k b u (hb b n) q, fun b u q n _ _ => ⟨u.slots, k b u (hb b n) q⟩, fun b u q n _ => by rw [upd_ne (hx b n)]; exact n, fun b u q _ => ?_,
    fun b xs q => by rw [upd_ne (hm b _ q fun z => z)]; exact q, fun b u xs q => by rw [upd_ne (hm b _ q fun z => z)]; exact q, fun b ps q => ⟨#[], by rw [upd_ne (hm b _ q fun z => z), q]; simp⟩⟩
  by_cases hbe : b = e
  · subst hbe; exact heo
  · exact ⟨u, k b u hbe q⟩
theorem Un.mono (u : Un fs ex H H1 h h1) (hs : ∀ b ∈ fs, b ∈ fs') (hx : ∀ b ∈ ex, b ∈ ex') : Un fs' ex' H H1 h h1 :=
  ⟨fun b ob q n hb he => u.keep b ob q n (fun z => hb (hs b z)) fun z => he (hx b z), fun _ _ q n _ he => u.any q n fun z => he (hx _ z), fun b ob q n he => u.free b ob q n fun z => he (hx b z), fun b ob q he => u.there b ob q fun z => he (hx b z), u.tups, u.frzs, u.tbls⟩
end

/-! ### the heap without what is tracked -/
def trk (h : Heap) (H : Hp) : List Addr := (List.range h.objs.size).filter fun a => (H a).isSome
def hidT (h : Heap) (H : Hp) : Heap := PySem.W.hideAll h (trk h H)
theorem hidT_size (h : Heap) (H : Hp) : (hidT h H).objs.size = h.objs.size := PySem.W.hideAll_size _ _
theorem hidT_get {h : Heap} {H : Hp} {b : Addr} {o : Obj} (e : h.get? b = some o) (n : H b = none) : (hidT h H).get? b = some o :=
  PySem.W.hideAll_get _ e fun hm => by
    have q : (H b).isSome = true := (List.mem_filter.mp hm).2
    rw [n] at q; simp at q
theorem of_hidT {h : Heap} {H : Hp} {b : Addr} {o : Obj} (e : (hidT h H).get? b = some o) : h.get? b = some o ∧ H b = none := by
  have e' : h.get? b = some o := PySem.W.of_hideAll (trk h H) e
  refine ⟨e', ?_⟩
  cases q : H b with
  | none => rfl
  | some x =>
    have hm : b ∈ trk h H := List.mem_filter.mpr ⟨List.mem_range.mpr (Heap.lt_size e'), by simp [q]⟩
    have z : (hidT h H).get? b = none := PySem.W.hideAll_none (trk h H) hm
    rw [z] at e; cases e

/-! ### OpenK's ledger, filled with every new object but one -/
def allNews (g h : Heap) (L : Addr) : List (Addr × Obj) := (List.range h.objs.size).filterMap fun a => if a = L ∨ (g.get? a).isSome = true then none else (h.get? a).map fun o => (a, o)
def rest (g h : Heap) (L d : Addr) : List (Addr × Obj) := (allNews g h L).filter fun p => decide (p.1 ≠ d)
end L2

namespace L2
open PySem PySem.Spec PyProof.Rows

/-- the module's facts, over the base: the heap at the law's entry without what is tracked there -/
structure Mod (K : PySem.W.Frag) (mg : Str → Option Value) (base : Heap) : Prop where
  kin : K.In base
  glob : base.Ns mainGlobals mg
  blt : ∃ mb, base.Ns builtinsNs mb ∧ ∀ x : Str, x ≠ "__name__" → mb x = bootBuiltins x
  nolimit : base.NoLimit

/-- the context: a def's body (or a comprehension's block) running. base: fixed through the whole law; s₀, H₀: the entry; outer: the frames whose slots others may change (a def's callers); stack: all frames that run;
   ex: iterators that were made ahead of the entry and are walked here (a comprehension's); fn: the names whose cells were made at the entry (a def: all; a comprehension's block: its own); calm: not within an except suite; pn: pins that every state bears; xe: what is wanted of an exception that leaves the code -/
structure Cx where
  prog : Program
  w : World
  K : PySem.W.Frag
  mg : Str → Option Value
  base : Heap
  A : Around
  N : List Str
  s_0 : Shared
  H_0 : Hp
  env : Env
  outer : List Env
  stack : List Env
  ex : List Addr
  fn : Str → Bool
  calm : Bool
  pn : List (Addr × Obj)
  xe : Value → Shared → Prop
/-- the callers' frames -/
def frs (l : List Env) : List Addr := l.filterMap (·.frame)
abbrev Cx.fs (X : Cx) : List Addr := frs X.outer

def Vis (sc : Scope) (x : Str) : Prop := sc.names.lookup x = some .local ∨ sc.names.lookup x = some .cell ∨ sc.names.lookup x = some .free
def Loc (sc : Scope) (x : Str) : Prop := sc.names.lookup x = some .local ∨ sc.names.lookup x = some .cell
def Look (env : Env) (h : Heap) (m : Str → Option Value) (x : Str) (u : Value) : Prop :=
  (env.kindOf x = some .local ∧ m x = some u) ∨ ((env.kindOf x = some .cell ∨ env.kindOf x = some .free) ∧ ∃ c, env.cells.lookup x = some c ∧ h.IsCell c (some u))

structure Cx.Ok (X : Cx) : Prop where
  mod : Mod X.K X.mg X.base
  kind : X.env.scope.kind = .function
  glob : X.env.globals = mainGlobals
  blt : X.env.builtins = builtinsNs
  above : X.s_0.heap.objs.size ≤ X.env.locals
  inj : ∀ x y c, X.env.cells.lookup x = some c → X.env.cells.lookup y = some c → x = y
  has : ∀ x, (X.env.kindOf x = some .cell ∨ X.env.kindOf x = some .free) → ∃ c, X.env.cells.lookup x = some c
  cab : ∀ x c, X.fn x = true → X.env.cells.lookup x = some c → X.s_0.heap.objs.size ≤ c
  hd : X.calm = true → X.A.handled = none
  frames : X.A.frames = some X.stack
  stk : X.stack = X.outer ∨ (X.stack = X.env :: X.outer ∧ X.env.frame = some X.env.locals)
  exf : ∀ b ∈ X.ex, b ≠ X.env.locals ∧ ∀ x c, X.env.cells.lookup x = some c → c ≠ b
  bs : ∀ b o, X.base.get? b = some o → X.s_0.heap.get? b = some o ∧ X.H_0 b = none
  bsz : X.base.objs.size ≤ X.s_0.heap.objs.size
  noex : ∀ b o, X.base.get? b = some o → b ∉ X.ex
  exfs : ∀ b ∈ X.ex, b ∉ X.fs
  funs : X.s_0.heap.FunFrames X.base X.outer
  frf : ∀ b ∈ X.fs, X.H_0 b = none

structure Inv (X : Cx) (pins : List (Addr × Obj)) (σ : List (Option V)) (H : Hp) (s : Shared) : Prop where
  ok : X.Ok
  os : s.os = X.s_0.os
  bare : AllBare s.gens
  base : Un X.fs X.ex X.H_0 H X.s_0.heap s.heap
  loc : ∃ m, s.heap.Ns X.env.locals m ∧ ∀ (i : Nat) (x : Str) (v : V), X.N[i]? = some x → σ[i]? = some (some v) → Vis X.env.scope x → ∃ u, RelV v u ∧ Look X.env s.heap m x u
  cell : ∀ x c, X.env.cells.lookup x = some c → ∃ v, s.heap.IsCell c v
  free : H X.env.locals = none
  freeC : ∀ x c, X.env.cells.lookup x = some c → H c = none
  pin : ∀ p ∈ X.pn ++ pins, s.heap.get? p.1 = some p.2 ∧ H p.1 = none ∧ p.1 ≠ X.env.locals ∧ p.1 ∉ X.fs ∧ ∀ v, p.2.data ≠ .cell v
  hok : HOk X.prog X.w H s.heap
  len : σ.length = X.N.length

section
variable {X : Cx} {pins : List (Addr × Obj)} {σ : List (Option V)} {H H' : Hp} {s : Shared} {h' : Heap}

theorem Cx.Ok.nofr (ok : X.Ok) {b : Addr} {o : Obj} (e : X.base.get? b = some o) : b ∉ X.fs := fun hb => by
  have := (ok.funs.mem hb).1
  rw [e] at this; cases this
theorem Inv.bs (I : Inv X pins σ H s) : ∀ b o, X.base.get? b = some o → s.heap.get? b = some o ∧ H b = none := fun b o e =>
  ⟨I.base.keep b o (I.ok.bs b o e).1 (I.ok.bs b o e).2 (I.ok.nofr e) (I.ok.noex b o e), I.base.free b o (I.ok.bs b o e).1 (I.ok.bs b o e).2 (I.ok.noex b o e)⟩
theorem Inv.bk (I : Inv X pins σ H s) : ∀ b o, X.base.get? b = some o → s.heap.get? b = some o := fun b o e => (I.bs b o e).1
theorem Inv.mod (I : Inv X pins σ H s) : Mod X.K X.mg X.base := I.ok.mod
theorem Inv.kIn (I : Inv X pins σ H s) : X.K.In s.heap := I.ok.mod.kin.keeps I.bk
theorem Inv.nolimit (I : Inv X pins σ H s) : s.heap.NoLimit := I.ok.mod.nolimit.keeps I.bk
theorem Inv.lt (I : Inv X pins σ H s) : X.env.locals < s.heap.objs.size := let ⟨_, hn, _⟩ := I.loc; hn.lt
theorem Inv.sz (I : Inv X pins σ H s) : X.s_0.heap.objs.size ≤ s.heap.objs.size := Nat.le_trans I.ok.above (Nat.le_of_lt I.lt)
theorem Inv.nofs (I : Inv X pins σ H s) {a : Addr} (h : s.heap.objs.size ≤ a) : a ∉ X.fs := fun hb => by
  obtain ⟨_, o, ho, _⟩ := I.ok.funs.mem hb
  exact absurd (Nat.lt_of_lt_of_le (Heap.lt_size ho) (Nat.le_trans I.sz h)) (Nat.lt_irrefl _)
theorem Inv.cne (I : Inv X pins σ H s) : ∀ x c, X.env.cells.lookup x = some c → c ≠ X.env.locals := fun x c e z => by
  obtain ⟨v, o, ho, hd⟩ := I.cell x c e
  obtain ⟨m, ⟨o', es, ep, ho', hd', _⟩, _⟩ := I.loc
  rw [z, ho'] at ho; cases ho; rw [hd'] at hd; cases hd
theorem Inv.funs (I : Inv X pins σ H s) : s.heap.FunFrames X.base X.outer := by
  have all : ∀ (l : List Env), (∀ b ∈ frs l, b ∈ X.fs) → X.s_0.heap.FunFrames X.base l → s.heap.FunFrames X.base l := by
    intro l
    induction l with
    | nil => intro _ _; trivial
    | cons env r ih =>
      intro hs hl
      obtain ⟨hk, ⟨L, o, hf, hn, ho, hd⟩, hr⟩ := hl
      have hL : L ∈ X.fs := hs L (by unfold frs; rw [List.filterMap_cons, hf]; exact List.mem_cons_self)
      obtain ⟨sl, e⟩ := I.base.slot L o ho (I.ok.frf L hL) hL fun z => I.ok.exfs L z hL
      exact ⟨hk, ⟨L, _, hf, hn, e, hd⟩, ih (fun b hb => hs b (by unfold frs; rw [List.filterMap_cons, hf]; exact List.mem_cons_of_mem _ hb)) hr⟩
  exact all X.outer (fun _ hb => hb) I.ok.funs

/-- the frames that run, for a call -/
theorem Inv.stack (I : Inv X pins σ H s) : s.heap.FunFrames X.base X.stack := by
  rcases I.ok.stk with e | ⟨e, hf⟩
  · rw [e]; exact I.funs
  · rw [e]
    obtain ⟨m, hn, _⟩ := I.loc
    refine .cons (by rw [I.ok.kind]; decide) hf hn ?_ I.funs
    exact Heap.get?_none_of_le (Nat.le_trans I.ok.bsz I.ok.above)
theorem Inv.stkSub (I : Inv X pins σ H s) : ∀ b ∈ frs X.stack, b ∈ X.env.locals :: X.fs := fun b hb => by
  rcases I.ok.stk with e | ⟨e, hf⟩
  · rw [e] at hb; exact List.mem_cons_of_mem _ hb
  · rw [e] at hb
    unfold frs at hb
    rw [List.filterMap_cons, hf] at hb
    exact hb
theorem Inv.stkFree (I : Inv X pins σ H s) : ∀ b ∈ frs X.stack, H b = none := fun b hb => by
  rcases List.mem_cons.mp (I.stkSub b hb) with e | hb
  · rw [e]; exact I.free
  · obtain ⟨_, o, ho, _⟩ := I.ok.funs.mem hb
    exact I.base.free b o ho (I.ok.frf b hb) fun z => I.ok.exfs b z hb

/-- THE STEP: the untracked objects but the frame and the records at ch are kept (the callers' frames up to slots), the frame's map is kept, the new abstract heap is held -/
theorem Inv.step {g' : Array GenState} {t' : Nat} {d' : Drawn} {ch : List Addr} (I : Inv X pins σ H s)
    (hch : ∀ b ∈ ch, (b ∈ X.ex ∨ X.s_0.heap.objs.size ≤ b) ∧ b ≠ X.env.locals ∧ (∀ x c, X.env.cells.lookup x = some c → c ≠ b) ∧ ∀ p ∈ X.pn ++ pins, p.1 ≠ b)
    (keep : ∀ b o, b ≠ X.env.locals → b ∉ X.fs → b ∉ ch → s.heap.get? b = some o → H b = none → h'.get? b = some o)
    (slot : ∀ b o, b ≠ X.env.locals → b ∈ X.fs → b ∉ ch → s.heap.get? b = some o → H b = none → ∃ sl, h'.get? b = some { o with slots := sl }) (free : ∀ b o, b ∉ ch → s.heap.get? b = some o → H b = none → H' b = none)
    (there : ∀ b o, b ∉ ch → s.heap.get? b = some o → ∃ o', h'.get? b = some o')
    (tups : ∀ b xs, H b = some (.tup xs) → H' b = some (.tup xs)) (frzs : ∀ b o u, H b = some (.frz o u) → H' b = some (.frz o u)) (tbls : ∀ b ps, H b = some (.tbl ps) → ∃ more, H' b = some (.tbl (ps ++ more)))
    (ns : ∀ m, s.heap.Ns X.env.locals m → h'.Ns X.env.locals m) (hok : HOk X.prog X.w H' h') (hg : AllBare g') :
    Inv X pins σ H' { s with heap := h', gens := g', drawn := d', toks := t' } := by
  have neL : ∀ b o, X.s_0.heap.get? b = some o → b ≠ X.env.locals := fun b o e => Nat.ne_of_lt (Nat.lt_of_lt_of_le (Heap.lt_size e) I.ok.above)
  have neC : ∀ b o, X.s_0.heap.get? b = some o → b ∉ X.ex → b ∉ ch := fun b o e hx hb => by
    rcases (hch b hb).1 with z | z
    · exact hx z
    · exact absurd (Nat.lt_of_lt_of_le (Heap.lt_size e) z) (Nat.lt_irrefl _)
  have cellK : ∀ x c, X.env.cells.lookup x = some c → ∀ v, s.heap.IsCell c v → h'.IsCell c v := fun x c e v ⟨o, ho, hd⟩ => by
    have nch : c ∉ ch := fun z => (hch c z).2.2.1 x c e rfl
    by_cases hc : c ∈ X.fs
    · obtain ⟨sl, q⟩ := slot c o (I.cne x c e) hc nch ho (I.freeC x c e)
      exact ⟨_, q, hd⟩
    · exact ⟨o, keep c o (I.cne x c e) hc nch ho (I.freeC x c e), hd⟩
  refine ⟨I.ok, I.os, hg, ⟨fun b o e n hb hx => ?_, fun b o e n hb hx => ?_, fun b o e n hx => ?_, fun b o e hx => ?_, fun b xs e => tups b xs (I.base.tups b xs e), fun b o xs e => frzs b o xs (I.base.frzs b o xs e), fun b ps e => ?_⟩, ?_, fun x c e => ?_, ?_, fun x c e => ?_, fun p hp => ?_, hok, I.len⟩
  · exact keep b o (neL b o e) hb (neC b o e hx) (I.base.keep b o e n hb hx) (I.base.free b o e n hx)
  · obtain ⟨sl, e1⟩ := I.base.slot b o e n hb hx
    obtain ⟨sl', e2⟩ := slot b _ (neL b o e) hb (neC b o e hx) e1 (I.base.free b o e n hx)
    exact ⟨sl', e2⟩
  · obtain ⟨o', e1⟩ := I.base.there b o e hx
    exact free b o' (neC b o e hx) e1 (I.base.free b o e n hx)
  · obtain ⟨o', e1⟩ := I.base.there b o e hx
    exact there b o' (neC b o e hx) e1
  · obtain ⟨m1, e1⟩ := I.base.tbls b ps e
    obtain ⟨m2, e2⟩ := tbls b _ e1
    exact ⟨m1 ++ m2, by rw [e2, Array.append_assoc]⟩
  · obtain ⟨m, hn, hl⟩ := I.loc
    refine ⟨m, ns m hn, fun i x v e1 e2 e3 => ?_⟩
    obtain ⟨u, r, l⟩ := hl i x v e1 e2 e3
    refine ⟨u, r, ?_⟩
    rcases l with l | ⟨k, c, e, z⟩
    · exact .inl l
    · exact .inr ⟨k, c, e, cellK x c e _ z⟩
  · obtain ⟨v, z⟩ := I.cell x c e
    exact ⟨v, cellK x c e v z⟩
  · obtain ⟨m, ⟨o, _, _, ho, _⟩, _⟩ := I.loc
    exact free _ o (fun z => (hch _ z).2.1 rfl) ho I.free
  · obtain ⟨v, o, ho, hd⟩ := I.cell x c e
    exact free c o (fun z => (hch c z).2.2.1 x c e rfl) ho (I.freeC x c e)
  · obtain ⟨e, n, ne, nf, d⟩ := I.pin p hp
    have nch : p.1 ∉ ch := fun z => (hch p.1 z).2.2.2 p hp rfl
    exact ⟨keep p.1 p.2 ne nf nch e n, free p.1 p.2 nch e n, ne, nf, d⟩
/-- .. where the frame's own object is kept too -/
theorem Inv.un {t' : Nat} (I : Inv X pins σ H s) (u : Un X.fs [] H H' s.heap h') (hok : HOk X.prog X.w H' h') : Inv X pins σ H' { s with heap := h', toks := t' } := by
  obtain ⟨m, ⟨o, es, ep, ho, r⟩, _⟩ := id I.loc
  obtain ⟨sl, hL⟩ := u.any ho I.free (by simp)
  exact I.step (g' := s.gens) (d' := s.drawn) (ch := []) (fun _ z => nomatch z) (fun b o _ hb _ e n => u.keep b o e n hb (by simp)) (fun b o _ hb _ e n => u.slot b o e n hb (by simp)) (fun b o _ e n => u.free b o e n (by simp)) (fun b o _ e => u.there b o e (by simp)) u.tups u.frzs u.tbls (fun m' hm => by
    obtain ⟨o', es', ep', ho', r'⟩ := hm
    rw [ho] at ho'; cases ho'
    exact ⟨_, es', ep', hL, r'⟩) hok I.bare
/-- behind a call (or a comprehension's block): the slots of this frame may have changed too, the records at ch may have turned -/
theorem Inv.call {g' : Array GenState} {t' : Nat} {d' : Drawn} {ch : List Addr} (I : Inv X pins σ H s) (u : Un (frs X.stack) ch H H' s.heap h') (hok : HOk X.prog X.w H' h') (hg : AllBare g')
    (hch : ∀ b ∈ ch, (b ∈ X.ex ∨ X.s_0.heap.objs.size ≤ b) ∧ b ≠ X.env.locals ∧ (∀ x c, X.env.cells.lookup x = some c → c ≠ b) ∧ ∀ p ∈ X.pn ++ pins, p.1 ≠ b) :
    Inv X pins σ H' { s with heap := h', gens := g', drawn := d', toks := t' } := by
  obtain ⟨m, ⟨o, es, ep, ho, r⟩, _⟩ := id I.loc
  obtain ⟨sl, hL⟩ := u.any ho I.free fun z => (hch _ z).2.1 rfl
  exact I.step (ch := ch) hch (fun b o hL hb hc e n => u.keep b o e n (fun z => (List.mem_cons.mp (I.stkSub b z)).elim hL hb) hc) (fun b o _ _ hc e n => u.any e n hc) (fun b o hc e n => u.free b o e n hc) (fun b o hc e => u.there b o e hc) u.tups u.frzs u.tbls (fun m' hm => by
    obtain ⟨o', es', ep', ho', r'⟩ := hm
    rw [ho] at ho'; cases ho'
    exact ⟨_, es', ep', hL, r'⟩) hok hg
/-- an untracked record of ours (an iterator) has turned -/
theorem Inv.turned {t' : Nat} {it : Addr} (I : Inv X pins σ H s) (k : ∀ b o, b ≠ it → s.heap.get? b = some o → h'.get? b = some o) (hn : H it = none) (hL : it ≠ X.env.locals)
    (h1 : it ∈ X.ex ∨ X.s_0.heap.objs.size ≤ it) (h2 : ∀ x c, X.env.cells.lookup x = some c → c ≠ it) (h3 : ∀ p ∈ X.pn ++ pins, p.1 ≠ it) : Inv X pins σ H { s with heap := h', toks := t' } := by
  have nit : ∀ b u, H b = some u → b ≠ it := fun b u e z => by rw [z, hn] at e; cases e
  refine I.step (g' := s.gens) (d' := s.drawn) (ch := [it]) (fun b hb => ?_) (fun b o _ _ hc e _ => k b o (fun z => hc (by simp [z])) e) (fun b o _ _ hc e _ => ⟨o.slots, k b o (fun z => hc (by simp [z])) e⟩) (fun _ _ _ _ n => n)
    (fun b o hc e => ⟨o, k b o (fun z => hc (by simp [z])) e⟩) (fun _ _ e => e) (fun _ _ _ e => e) (fun b ps e => ⟨#[], by rw [e]; simp⟩) (fun m hm => ?_) (fun b u e => ?_) I.bare
  · have e : b = it := by simpa using hb
    subst e
    exact ⟨h1, hL, h2, h3⟩
  · obtain ⟨o, es, ep, ho, r⟩ := hm
    exact ⟨o, es, ep, k _ o (Ne.symm hL) ho, r⟩
  · refine (I.hok b u e).stay (fun c v hc q => k c v ?_ q) (fun _ q => q) fun _ _ q => q
    rcases hc with z | z
    · rw [z]; exact nit b u e
    · exact nit c _ z
theorem Inv.tok (I : Inv X pins σ H s) (t : Nat) : Inv X pins σ H { s with toks := t } := I.un (h' := s.heap) (t' := t) Un.refl I.hok
/-- all objects kept -/
theorem Inv.kept {t' : Nat} (I : Inv X pins σ H s) (k : ∀ b u, s.heap.get? b = some u → h'.get? b = some u) : Inv X pins σ H { s with heap := h', toks := t' } := I.un (Un.kept k) (I.hok.kept k)
/-- a new object laid and tracked -/
theorem Inv.laid {a : Addr} {o : HO} {t' : Nat} (I : Inv X pins σ H s) (k : ∀ b u, s.heap.get? b = some u → h'.get? b = some u) (hp : s.heap.objs.size ≤ a) (new : ObjOk X.prog X.w (upd H a o) h' a o) :
    Inv X pins σ (upd H a o) { s with heap := h', toks := t' } := I.un (Un.laid k hp (I.hok.fresh hp)) (I.hok.laid k hp new)
/-- an object written -/
theorem Inv.write {x e : Addr} {o : HO} {t' : Nat} (I : Inv X pins σ H s) (mu : Mut (H x)) (he : e = x ∨ H e = some (.own x)) (k : ∀ b u, b ≠ e → s.heap.get? b = some u → h'.get? b = some u) (heo : ∃ u, h'.get? e = some u)
    (new : ObjOk X.prog X.w (upd H x o) h' x o) : Inv X pins σ (upd H x o) { s with heap := h', toks := t' } := I.un (Un.write mu he k heo) (I.hok.write mu he k heo new)
/-- forgetting slots, pins -/
theorem Inv.weak {σ' : List (Option V)} (I : Inv X pins σ H s) (hl : σ'.length = σ.length) (w : ∀ (i : Nat) v, σ'[i]? = some (some v) → σ[i]? = some (some v)) : Inv X pins σ' H s :=
  ⟨I.ok, I.os, I.bare, I.base, let ⟨m, hn, hl'⟩ := I.loc; ⟨m, hn, fun i x v e1 e2 e3 => hl' i x v e1 (w i v e2) e3⟩, I.cell, I.free, I.freeC, I.pin, I.hok, hl.trans I.len⟩
theorem Inv.pins_of {pins' : List (Addr × Obj)} (I : Inv X pins σ H s) (h : ∀ p ∈ pins', s.heap.get? p.1 = some p.2 ∧ H p.1 = none ∧ p.1 ≠ X.env.locals ∧ p.1 ∉ X.fs ∧ ∀ v, p.2.data ≠ .cell v) : Inv X pins' σ H s :=
  ⟨I.ok, I.os, I.bare, I.base, I.loc, I.cell, I.free, I.freeC, fun p hp => (List.mem_append.mp hp).elim (fun z => I.pin p (List.mem_append_left _ z)) (h p), I.hok, I.len⟩

theorem nodup_ix {N : List Str} (hN : N.Nodup) {i j : Nat} {x : Str} (a : N[i]? = some x) (b : N[j]? = some x) : i = j := by
  obtain ⟨h1, e1⟩ := List.getElem?_eq_some_iff.mp a
  obtain ⟨h2, e2⟩ := List.getElem?_eq_some_iff.mp b
  exact (List.getElem_inj hN).mp (e1.trans e2.symm)

/-- a name is stored; what changed -/
theorem store_ok2 {M : Model} {A : Around} {E : Value → Shared → Prop} {i : Nat} {x : Str} {v : V} {u : Value} {Q : Unit → Shared → Prop} (I : Inv X pins σ H s) (hN : X.N.Nodup) (hi : X.N[i]? = some x) (hx : Loc X.env.scope x) (r : RelV v u)
    (h : ∀ s', Inv X pins (σ.set i (some v)) H s' → (∃ a, Heap.SameBut a s.heap s'.heap ∧ (a = X.env.locals ∨ X.env.cells.lookup x = some a)) → Q () s') (hf : X.fn x = true ∨ X.env.scope.names.lookup x = some .local := by first | exact .inl rfl | exact .inr rfl | assumption) : wpAny M A (storeName X.env x u) Q E s := by
  obtain ⟨m, hn, hl⟩ := id I.loc
  have hcls : (X.env.scope.kind == .class || (X.env.scope.kind == .module && X.env.locals != X.env.globals)) = false := by rw [I.ok.kind]; rfl
  have hiσ : i < σ.length := by rw [I.len]; exact (List.getElem?_eq_some_iff.mp hi).1
  have cne := I.cne
  have tracked : ∀ {a : Addr} {h' : Heap}, (∃ o, s.heap.get? a = some o ∧ H a = none) → Heap.SameBut a s.heap h' → HOk X.prog X.w H h' := fun {a h'} ha hs b ob e => by
    obtain ⟨_, _, hfree⟩ := ha
    refine (I.hok b ob e).stay (fun c w' hc q => (hs.2 c ?_).trans q) (fun _ q => q) fun _ _ q => q
    rintro rfl
    rcases hc with rfl | hc
    · rw [hfree] at e; cases e
    · rw [hfree] at hc; cases hc
  rcases hx with hk | hk
  · refine wpAny_storeName_local hk hn (fun h' hn' hs => ?_) hcls
    obtain ⟨oL, _, _, hoL, _⟩ := id hn
    refine h _ ⟨I.ok, I.os, I.bare, ⟨fun b o e n hb hx => ?_, fun b o e n hb hx => ?_, I.base.free, fun b o e hx => ?_, I.base.tups, I.base.frzs, I.base.tbls⟩, ⟨_, hn', fun j y v' e1 e2 e3 => ?_⟩, fun y c e => ?_, I.free, I.freeC, fun p hp => ?_, tracked ⟨oL, hoL, I.free⟩ hs, by simpa using I.len⟩ ⟨_, hs, .inl rfl⟩
    · exact (hs.2 b (Nat.ne_of_lt (Nat.lt_of_lt_of_le (Heap.lt_size e) I.ok.above))).trans (I.base.keep b o e n hb hx)
    · obtain ⟨sl, e1⟩ := I.base.slot b o e n hb hx
      exact ⟨sl, (hs.2 b (Nat.ne_of_lt (Nat.lt_of_lt_of_le (Heap.lt_size e) I.ok.above))).trans e1⟩
    · obtain ⟨o', e1⟩ := I.base.there b o e hx
      exact ⟨o', (hs.2 b (Nat.ne_of_lt (Nat.lt_of_lt_of_le (Heap.lt_size e) I.ok.above))).trans e1⟩
    · by_cases hj : j = i
      · subst hj
        rw [hi] at e1; cases e1
        rw [List.getElem?_set_self hiσ] at e2
        cases e2
        exact ⟨u, r, .inl ⟨hk, by simp⟩⟩
      · rw [List.getElem?_set_ne (Ne.symm hj)] at e2
        obtain ⟨u', r', q⟩ := hl j y v' e1 e2 e3
        refine ⟨u', r', ?_⟩
        rcases q with ⟨k, e⟩ | ⟨k, c, e, z⟩
        · refine .inl ⟨k, ?_⟩
          have : y ≠ x := fun e => hj (nodup_ix hN e1 (e ▸ hi))
          simp [this, e]
        · exact .inr ⟨k, c, e, z.sameBut hs (cne y c e)⟩
    · obtain ⟨w', z⟩ := I.cell y c e
      exact ⟨w', z.sameBut hs (cne y c e)⟩
    · obtain ⟨e, n, ne, nf, d⟩ := I.pin p hp
      exact ⟨(hs.2 p.1 ne).trans e, n, ne, nf, d⟩
  · have hfn : X.fn x = true := by
      rcases hf with z | z
      · exact z
      · rw [z] at hk; cases hk
    obtain ⟨c, hc⟩ := I.ok.has x (.inl hk)
    obtain ⟨w', z⟩ := I.cell x c hc
    refine wpAny_storeName_cell I.ok.kind hk hc z (fun h' hc' hs => ?_)
    obtain ⟨oc, hoc, hocd⟩ := id z
    refine h { s with heap := h' } ⟨I.ok, I.os, I.bare, ⟨fun b o e n hb hx => ?_, fun b o e n hb hx => ?_, I.base.free, fun b o e hx => ?_, I.base.tups, I.base.frzs, I.base.tbls⟩, ⟨m, hn.sameBut hs (Ne.symm (cne x c hc)), fun j y v' e1 e2 e3 => ?_⟩, fun y c' e => ?_, I.free, I.freeC, fun p hp => ?_, tracked ⟨oc, hoc, I.freeC x c hc⟩ hs, by simpa using I.len⟩ ⟨c, hs, .inr hc⟩
    · exact (hs.2 b (Nat.ne_of_lt (Nat.lt_of_lt_of_le (Heap.lt_size e) (I.ok.cab x c hfn hc)))).trans (I.base.keep b o e n hb hx)
    · obtain ⟨sl, e1⟩ := I.base.slot b o e n hb hx
      exact ⟨sl, (hs.2 b (Nat.ne_of_lt (Nat.lt_of_lt_of_le (Heap.lt_size e) (I.ok.cab x c hfn hc)))).trans e1⟩
    · obtain ⟨o', e1⟩ := I.base.there b o e hx
      exact ⟨o', (hs.2 b (Nat.ne_of_lt (Nat.lt_of_lt_of_le (Heap.lt_size e) (I.ok.cab x c hfn hc)))).trans e1⟩
    · by_cases hj : j = i
      · subst hj
        rw [hi] at e1; cases e1
        rw [List.getElem?_set_self hiσ] at e2
        cases e2
        exact ⟨u, r, .inr ⟨.inl hk, c, hc, hc'⟩⟩
      · rw [List.getElem?_set_ne (Ne.symm hj)] at e2
        obtain ⟨u', r', q⟩ := hl j y v' e1 e2 e3
        refine ⟨u', r', ?_⟩
        rcases q with q | ⟨k, c', e, z'⟩
        · exact .inl q
        · refine .inr ⟨k, c', e, z'.sameBut hs ?_⟩
          rintro rfl
          exact hj (nodup_ix hN e1 (I.ok.inj _ _ _ e hc ▸ hi))
    · by_cases hcc : c' = c
      · subst hcc; exact ⟨_, hc'⟩
      · obtain ⟨w2, z2⟩ := I.cell y c' e
        exact ⟨w2, z2.sameBut hs hcc⟩
    · obtain ⟨e, n, ne, nf, d⟩ := I.pin p hp
      refine ⟨(hs.2 p.1 ?_).trans e, n, ne, nf, d⟩
      intro q
      rw [q, hoc] at e
      have q' : oc = p.2 := Option.some.inj e
      exact d w' (by rw [← q']; exact hocd)
theorem store_ok {M : Model} {A : Around} {E : Value → Shared → Prop} {i : Nat} {x : Str} {v : V} {u : Value} {Q : Unit → Shared → Prop} (I : Inv X pins σ H s) (hN : X.N.Nodup) (hi : X.N[i]? = some x) (hx : Loc X.env.scope x) (r : RelV v u)
    (h : ∀ s', Inv X pins (σ.set i (some v)) H s' → Q () s') (hf : X.fn x = true ∨ X.env.scope.names.lookup x = some .local := by first | exact .inl rfl | exact .inr rfl | assumption) : wpAny M A (storeName X.env x u) Q E s :=
  store_ok2 I hN hi hx r (fun s' I' _ => h s' I') hf
/-- behind a call or a block, the state as it is -/
theorem Inv.call' {s' : Shared} {ch : List Addr} (I : Inv X pins σ H s) (ho : s'.os = s.os) (u : Un (frs X.stack) ch H H' s.heap s'.heap) (hok : HOk X.prog X.w H' s'.heap) (hg : AllBare s'.gens)
    (hch : ∀ b ∈ ch, (b ∈ X.ex ∨ X.s_0.heap.objs.size ≤ b) ∧ b ≠ X.env.locals ∧ (∀ x c, X.env.cells.lookup x = some c → c ≠ b) ∧ ∀ p ∈ X.pn ++ pins, p.1 ≠ b) : Inv X pins σ H' s' := by
  obtain ⟨h', g', d', t', o'⟩ := s'
  have e : o' = s.os := ho
  subst e
  exact I.call (g' := g') (t' := t') (d' := d') u hok hg hch
end

/-! ### the judgements -/
/-- an exception: its class, its own dict's address (where it has one), the abstract heap behind it -/
abbrev XK := Value → Option Addr → Hp → Prop
abbrev St := List (Option V)
abbrev VK := V → Hp → Prop
/-- an expression's reading; a test's; an argument list's -/
abbrev TE := St → Hp → VK → Prop
abbrev TT := St → Hp → (Bool → Hp → Prop) → Prop
abbrev TA := St → Hp → (List V → Hp → Prop) → Prop
/-- what is wanted behind a statement -/
structure Ends where
  nx : St → Hp → Prop
  rt : VK
  bk : St → Hp → Prop := fun _ _ => False
  ct : St → Hp → Prop := fun _ _ => False
abbrev TS := Ends → St → Hp → Prop

def EP (X : Cx) (pins : List (Addr × Obj)) (σ : St) (Q : VK) (u : Value) (s' : Shared) : Prop := ∃ v H', Inv X pins σ H' s' ∧ RelV v u ∧ Q v H'
def TP (X : Cx) (pins : List (Addr × Obj)) (σ : St) (Q : Bool → Hp → Prop) (b : Bool) (s' : Shared) : Prop := ∃ H', Inv X pins σ H' s' ∧ Q b H'
def AP (X : Cx) (pins : List (Addr × Obj)) (σ : St) (Q : List V → Hp → Prop) (us : List Value) (s' : Shared) : Prop := ∃ vs H', Inv X pins σ H' s' ∧ Vals vs us ∧ Q vs H'
def SP (X : Cx) (pins : List (Addr × Obj)) (D : Ends) (f : Flow) (s' : Shared) : Prop :=
  match f with
  | .next => ∃ σ' H', Inv X pins σ' H' s' ∧ D.nx σ' H'
  | .brk => ∃ σ' H', Inv X pins σ' H' s' ∧ D.bk σ' H'
  | .cont => ∃ σ' H', Inv X pins σ' H' s' ∧ D.ct σ' H'
  | .ret u => ∃ v σ' H', Inv X pins σ' H' s' ∧ RelV v u ∧ D.rt v H'

def PE (X : Cx) (e : Expr) (t : TE) : Prop :=
  ∀ (pins : List (Addr × Obj)) (s : Shared) (σ : St) (H : Hp) (Q : VK), Inv X pins σ H s → t σ H Q → wpAny (model X.prog X.w) X.A (eval e X.env) (EP X pins σ Q) X.xe s
def PT (X : Cx) (e : Expr) (t : TT) : Prop :=
  ∀ (pins : List (Addr × Obj)) (s : Shared) (σ : St) (H : Hp) (Q : Bool → Hp → Prop), Inv X pins σ H s → t σ H Q → wpAny (model X.prog X.w) X.A (isTrue e X.env (eval e X.env)) (TP X pins σ Q) X.xe s
/-- a test whatever its 'whole' is (and, or) -/
def PW (X : Cx) (e : Expr) (t : TT) : Prop :=
  ∀ (whole : Sem Value) (pins : List (Addr × Obj)) (s : Shared) (σ : St) (H : Hp) (Q : Bool → Hp → Prop), Inv X pins σ H s → t σ H Q → wpAny (model X.prog X.w) X.A (isTrue e X.env whole) (TP X pins σ Q) X.xe s
theorem PW.pt {X : Cx} {e : Expr} {t : TT} (h : PW X e t) : PT X e t := h _
/-- an argument list (no star), from the left -/
def PA (X : Cx) (es : List Expr) (t : TA) : Prop :=
  ∀ (pos : Pos) (pins : List (Addr × Obj)) (s : Shared) (σ : St) (H : Hp) (Q : List V → Hp → Prop), Inv X pins σ H s → t σ H Q → wpAny (model X.prog X.w) X.A (spliced (backTo pos (starEach es X.env))) (AP X pins σ Q) X.xe s
def PS (X : Cx) (st : Stmt) (t : TS) : Prop :=
  ∀ (pins : List (Addr × Obj)) (s : Shared) (σ : St) (H : Hp) (D : Ends), Inv X pins σ H s → t D σ H → wpAny (model X.prog X.w) X.A (exec st X.env) (SP X pins D) X.xe s
def PSs (X : Cx) (st : List Stmt) (t : TS) : Prop :=
  ∀ (pins : List (Addr × Obj)) (s : Shared) (σ : St) (H : Hp) (D : Ends), Inv X pins σ H s → t D σ H → wpAny (model X.prog X.w) X.A (execs st X.env) (SP X pins D) X.xe s
/-- weaken the end -/
theorem thn {α : Type} {t : Sem α} {Q Q' : α → Shared → Prop} {M : Model} {A : Around} {E : Value → Shared → Prop} {s : Shared} (h : wpAny M A t Q E s) (hQ : ∀ a s, Q a s → Q' a s) : wpAny M A t Q' E s := wpAny_mono h hQ fun _ _ x => x
end L2

namespace L2
open PySem PySem.Spec PyProof.Rows
section
variable {X : Cx}

/-- two expressions in a row -/
theorem bin {a b : Expr} {ta tb : TE} (ha : PE X a ta) (hb : PE X b tb) {pins : List (Addr × Obj)} {s : Shared} {σ : St} {H : Hp} {R : V → V → Hp → Prop} (I : Inv X pins σ H s) (h : ta σ H fun x H1 => tb σ H1 fun y H2 => R x y H2)
    {α : Type} {Q : α → Shared → Prop} {f : Value → Value → Sem α}
    (hf : ∀ v u s2 x y H2, Inv X pins σ H2 s2 → RelV x v → RelV y u → R x y H2 → wpAny (model X.prog X.w) X.A (f v u) Q X.xe s2) :
    wpAny (model X.prog X.w) X.A (eval a X.env) (fun v s₁ => wpAny (model X.prog X.w) X.A (eval b X.env) (fun u s₂ => wpAny (model X.prog X.w) X.A (f v u) Q X.xe s₂) X.xe s₁) X.xe s := by
  refine thn (ha pins s σ H _ I h) fun v s1 ⟨x, H1, I1, r1, q1⟩ => ?_
  refine thn (hb pins s1 σ H1 _ I1 q1) fun u s2 ⟨y, H2, I2, r2, q2⟩ => ?_
  exact hf v u s2 x y H2 I2 r1 r2 q2

/-! ### names and constants -/
def tVar (i : Nat) : TE := fun σ H Q => ∃ v, σ[i]? = some (some v) ∧ Q v H
def tC (v : V) : TE := fun _ H Q => Q v H
theorem pe_var {i : Nat} {x : Str} {pos : Pos} (hN : X.N[i]? = some x) (hv : Vis X.env.scope x) (hd : (x == ("__debug__" : Str)) = false := by decide) (hcd : (x == ("__classdict__" : Str)) = false := by decide) : PE X (.Name x pos) (tVar i) := by
  intro pins s σ H Q I h
  obtain ⟨v, e, h⟩ := h
  obtain ⟨m, hn, hl⟩ := I.loc
  obtain ⟨u, r, l⟩ := hl i x v hN e hv
  have fin : EP X pins σ Q u s := ⟨v, H, I, r, h⟩
  rcases l with ⟨hk, hm⟩ | ⟨hk, c, hc, hcell⟩
  · exact wpAny_Name (wpAny_loadName_local I.ok.kind hk hn hm fin) hd
  · rcases hk with hk | hk
    · exact wpAny_Name (wpAny_loadName_cell I.ok.kind hk hc hcell fin) hd
    · exact wpAny_Name (wpAny_loadName_free I.ok.kind hk hc hcell fin hcd) hd
theorem pe_int {i j pos} : PE X (.Constant (.int i) j pos) (tC (.int i)) := fun _ _ _ H _ I h => wpAny_Constant_int ⟨.int i, H, I.tok _, ⟨_, rfl⟩, h⟩
theorem pe_bl {b j pos} : PE X (.Constant (.bool b) j pos) (tC (.bl b)) := fun _ _ _ H _ I h => Constant_bool ⟨.bl b, H, I, rfl, h⟩
theorem pe_str {x j pos} : PE X (.Constant (.str x) j pos) (tC (.str x)) := fun _ _ _ H _ I h => Calls.Constant_str ⟨.str x, H, I.tok _, ⟨_, rfl⟩, h⟩

/-- a global name of the def -/
def Gl (X : Cx) (x : Str) : Prop := X.env.kindOf x = some .globalImplicit
theorem ld_glob {E : Value → Shared → Prop} {pins : List (Addr × Obj)} {s : Shared} {σ : St} {H : Hp} {x : Str} {u : Value} {pos : Pos} {Q : Value → Shared → Prop} (I : Inv X pins σ H s) (hg : Gl X x) (hm : X.mg x = some u) (h : Q u s)
    (hd : (x == ("__debug__" : Str)) = false := by decide) : wpAny (model X.prog X.w) X.A (eval (.Name x pos) X.env) Q E s :=
  Calls.Name_function_global I.ok.kind hg (Calls.loadGlobal_global (by rw [I.ok.glob]; exact I.mod.glob.keeps I.bk) hm h) hd
theorem ld_blt {E : Value → Shared → Prop} {pins : List (Addr × Obj)} {s : Shared} {σ : St} {H : Hp} {x : Str} {u : Value} {pos : Pos} {Q : Value → Shared → Prop} (I : Inv X pins σ H s) (hg : Gl X x) (hm : X.mg x = none) (hv : bootBuiltins x = some u) (h : Q u s)
    (hn : x ≠ "__name__" := by decide) (hd : (x == ("__debug__" : Str)) = false := by decide) : wpAny (model X.prog X.w) X.A (eval (.Name x pos) X.env) Q E s := by
  obtain ⟨mb, h1, h2⟩ := I.mod.blt
  exact Calls.Name_function_global I.ok.kind hg (Calls.loadGlobal_builtin (by rw [I.ok.glob]; exact I.mod.glob.keeps I.bk) hm (by rw [I.ok.blt]; exact h1.keeps I.bk) ((h2 x hn).trans hv) h) hd
/-- a module's constant, a class, a function, as a value -/
theorem pe_glob {x : Str} {v : V} {u : Value} {pos : Pos} (hg : Gl X x) (hm : X.mg x = some u) (r : RelV v u) (hd : (x == ("__debug__" : Str)) = false := by decide) : PE X (.Name x pos) (tC v) :=
  fun _ _ _ H _ I h => ld_glob I hg hm ⟨v, H, I, r, h⟩ hd
theorem pe_bltn {x : Str} {v : V} {u : Value} {pos : Pos} (hg : Gl X x) (hm : X.mg x = none) (hv : bootBuiltins x = some u) (r : RelV v u) (hn : x ≠ "__name__" := by decide) (hd : (x == ("__debug__" : Str)) = false := by decide) : PE X (.Name x pos) (tC v) :=
  fun _ _ _ H _ I h => ld_blt I hg hm hv ⟨v, H, I, r, h⟩ hn hd

/-! ### arithmetic -/
/-- two ints -/
def t2I (ta tb : TE) (k : Int → Int → Hp → Prop) : St → Hp → Prop := fun σ H => ta σ H fun x H1 => tb σ H1 fun y H2 => ∃ i j, x = .int i ∧ y = .int j ∧ k i j H2
variable {a b : Expr} {ta tb : TE} {pos : Pos}
/-! ### comparisons -/
def PC (X : Cx) (op : CmpOp) (a b : Expr) (t : TE) : Prop :=
  ∀ (pins : List (Addr × Obj)) (s : Shared) (σ : St) (H : Hp) (Q : VK), Inv X pins σ H s → t σ H Q →
    wpAny (model X.prog X.w) X.A (eval a X.env) (fun v s₁ => wpAny (model X.prog X.w) X.A (eval b X.env) (fun u s₂ => wpAny (model X.prog X.w) X.A (compareOp op v u) (EP X pins σ Q) X.xe s₂) X.xe s₁) X.xe s
theorem nobehind (b : Expr) {op : CmpOp} (h : op ≠ .In) (h2 : op ≠ .NotIn) : behindInMarks op b = false := by
  have e1 : (op == CmpOp.In) = false := by cases op <;> first | rfl | exact absurd rfl h
  have e2 : (op == CmpOp.NotIn) = false := by cases op <;> first | rfl | exact absurd rfl h2
  cases b <;> simp [behindInMarks, e1, e2]
def tCmp (p : Int → Int → Bool) (ta tb : TE) : TE := fun σ H Q => t2I ta tb (fun i j H2 => Q (.bl (p i j)) H2) σ H
abbrev tLt : TE → TE → TE := tCmp fun i j => decide (i < j)
abbrev tGt : TE → TE → TE := tCmp fun i j => decide (j < i)
abbrev tGe : TE → TE → TE := tCmp fun i j => decide (j ≤ i)
abbrev tEqI : TE → TE → TE := tCmp fun i j => decide (i = j)
abbrev tNeI : TE → TE → TE := tCmp fun i j => !decide (i = j)
/-- a comparison of two ints, by its rule -/
theorem pc_int {op : CmpOp} {p : Int → Int → Bool} (ha : PE X a ta) (hb : PE X b tb)
    (rule : ∀ (i j : Int) (t u : Tok) (Q : Value → Shared → Prop) (s : Shared), Q (.bool (p i j)) s → wpAny (model X.prog X.w) X.A (compareOp op (.int i t) (.int j u)) Q X.xe s) : PC X op a b (tCmp p ta tb) := by
  intro pins s σ H Q I h
  refine bin ha hb I h fun v u s2 x y H2 I2 rx ry q => ?_
  obtain ⟨i, j, rfl, rfl, q⟩ := q
  obtain ⟨t, rfl⟩ := rx
  obtain ⟨t', rfl⟩ := ry
  exact rule i j t t' _ s2 ⟨.bl _, H2, I2, rfl, q⟩
theorem pc_lt (ha : PE X a ta) (hb : PE X b tb) : PC X .Lt a b (tLt ta tb) := pc_int ha hb fun _ _ _ _ _ _ h => lt_int h
theorem pc_gt (ha : PE X a ta) (hb : PE X b tb) : PC X .Gt a b (tGt ta tb) := pc_int ha hb fun _ _ _ _ _ _ h => gt_int h
theorem pc_ge (ha : PE X a ta) (hb : PE X b tb) : PC X .GtE a b (tGe ta tb) := pc_int ha hb fun _ _ _ _ _ _ h => ge_int h
theorem pc_eqI (ha : PE X a ta) (hb : PE X b tb) : PC X .Eq a b (tEqI ta tb) := pc_int ha hb fun _ _ _ _ _ _ h => eq_int (by rw [Bool.beq_eq_decide_eq]; exact h)
theorem pc_neI (ha : PE X a ta) (hb : PE X b tb) : PC X .NotEq a b (tNeI ta tb) := pc_int ha hb fun _ _ _ _ _ _ h => ne_int (by rw [bne, Bool.beq_eq_decide_eq]; exact h)
/-- a comparison as a value, as a test -/
def tB (t : TE) : TT := fun σ H Q => t σ H fun x H1 => ∃ c, x = .bl c ∧ Q c H1
theorem pe_cmp {op : CmpOp} {t : TE} (h : PC X op a b t) (h1 : behindInMarks op b = false := by first | exact nobehind _ (by decide) (by decide) | rfl) : PE X (.Compare a [op] [b] pos) t := fun pins s σ H Q I hw => wpAny_Compare1 (h pins s σ H Q I hw) h1
theorem pt_cmp {op : CmpOp} {t : TE} (h : PC X op a b t) (h1 : behindInMarks op b = false := by first | exact nobehind _ (by decide) (by decide) | rfl) : PT X (.Compare a [op] [b] pos) (tB t) := by
  intro pins s σ H Q I hw
  refine wpAny_isTrue_Compare1 (thn (h pins s σ H _ I hw) fun v s1 h1 => thn h1 fun u s2 h2 => thn h2 fun c s3 ⟨x, H1, I1, r1, q1⟩ => ?_) h1
  obtain ⟨d, rfl, q⟩ := q1
  cases r1
  exact wpAny_truthy_bool ⟨H1, I1, q⟩
/-- an expression whose value is a bool, as a test -/
theorem pt_val {e : Expr} {t : TE} (h : PE X e t) (he : ∀ whole, isTrue e X.env whole = (do let v ← whole; standAt e.pos; holding [v] (truthy v)) := by intro _; rfl) : PT X e (tB t) := by
  intro pins s σ H Q I hw
  refine isTrue_plain (thn (h pins s σ H _ I hw) fun v s1 ⟨x, H1, I1, r1, q1⟩ => ?_) (he _)
  obtain ⟨d, rfl, q⟩ := q1
  cases r1
  exact wpAny_truthy_bool ⟨H1, I1, q⟩

/-! ### and, or, not -/
variable {tA tB' : TT} {rest : List Expr}
def tAnd (t u : TT) : TT := fun σ H Q => t σ H fun c H1 => if c = true then u σ H1 Q else Q false H1
def tOr (t u : TT) : TT := fun σ H Q => t σ H fun c H1 => if c = true then Q true H1 else u σ H1 Q
def tNot (t : TT) : TT := fun σ H Q => t σ H fun c H1 => Q (!c) H1
theorem pw_and1 (ha : PT X a tA) : PW X (.BoolOp .And [a] pos) tA := by
  intro wh pins s σ H Q I h
  refine isTrue_and (thn (ha pins s σ H Q I h) fun c s1 e => ?_)
  cases c with
  | true => exact isTrue_and_nil e
  | false => exact e
theorem pw_or1 (ha : PT X a tA) : PW X (.BoolOp .Or [a] pos) tA := by
  intro wh pins s σ H Q I h
  refine isTrue_or (thn (ha pins s σ H Q I h) fun c s1 e => ?_)
  cases c with
  | false => exact isTrue_or_nil e
  | true => exact e
theorem pw_and (ha : PT X a tA) (hb : PW X (.BoolOp .And (b :: rest) pos) tB') : PW X (.BoolOp .And (a :: b :: rest) pos) (tAnd tA tB') := by
  intro wh pins s σ H Q I h
  refine isTrue_and (thn (ha pins s σ H _ I h) fun c s1 ⟨H1, I1, q1⟩ => ?_)
  cases c with
  | true => exact hb wh pins s1 σ H1 Q I1 q1
  | false => exact ⟨H1, I1, q1⟩
theorem pw_or (ha : PT X a tA) (hb : PW X (.BoolOp .Or (b :: rest) pos) tB') : PW X (.BoolOp .Or (a :: b :: rest) pos) (tOr tA tB') := by
  intro wh pins s σ H Q I h
  refine isTrue_or (thn (ha pins s σ H _ I h) fun c s1 ⟨H1, I1, q1⟩ => ?_)
  cases c with
  | true => exact ⟨H1, I1, q1⟩
  | false => exact hb wh pins s1 σ H1 Q I1 q1
theorem pt_not (ha : PT X a tA) : PT X (.UnaryOp .Not a pos) (tNot tA) := by
  intro pins s σ H Q I h
  exact isTrue_not (ha pins s σ H (fun c H1 => Q (!c) H1) I h)
/-- .. as values (bools) -/
def tAndV (ta tb : TE) : TE := fun σ H Q => ta σ H fun x H1 => ∃ c, x = .bl c ∧ if c = true then tb σ H1 Q else Q (.bl false) H1
def tNotV (ta : TE) : TE := fun σ H Q => ta σ H fun x H1 => ∃ c, x = .bl c ∧ Q (.bl (!c)) H1
theorem pe_one {op} {t : TE} (h : PE X a t) : PE X (.BoolOp op [a] pos) t := fun pins s σ H Q I hw => BoolOp_one (h pins s σ H Q I hw)
theorem pe_and (ha : PE X a ta) (hb : PE X (.BoolOp .And (b :: rest) pos) tb) : PE X (.BoolOp .And (a :: b :: rest) pos) (tAndV ta tb) := by
  intro pins s σ H Q I h
  refine BoolOp_and (thn (ha pins s σ H _ I h) fun v s1 ⟨x, H1, I1, r1, q1⟩ => ?_)
  obtain ⟨c, rfl, q1⟩ := q1
  cases r1
  refine wpAny_truthy_bool ?_
  cases c with
  | true => exact hb pins s1 σ H1 Q I1 q1
  | false => exact ⟨.bl false, H1, I1, rfl, q1⟩
theorem pe_not (ha : PE X a ta) : PE X (.UnaryOp .Not a pos) (tNotV ta) := by
  intro pins s σ H Q I h
  refine UnaryOp_ (thn (ha pins s σ H _ I h) fun v s1 ⟨x, H1, I1, r1, q1⟩ => ?_)
  obtain ⟨c, rfl, q1⟩ := q1
  cases r1
  exact not_of (wpAny_truthy_bool ⟨.bl (!c), H1, I1, rfl, q1⟩)
/-- a if t else b -/
def tIf (t : TT) (ta tb : TE) : TE := fun σ H Q => t σ H fun c H1 => if c = true then ta σ H1 Q else tb σ H1 Q
theorem pe_ifExp {c : Expr} (hc : PT X c tA) (ha : PE X a ta) (hb : PE X b tb) : PE X (.IfExp c a b pos) (tIf tA ta tb) := by
  intro pins s σ H Q I h
  refine wpAny_IfExp (thn (hc pins s σ H _ I h) fun d s1 ⟨H1, I1, q1⟩ => ?_)
  cases d with
  | true => exact ha pins s1 σ H1 Q I1 q1
  | false => exact hb pins s1 σ H1 Q I1 q1
end
end L2

namespace L2
open PySem PySem.Spec PyProof.Rows

/-! ### a list, a tuple that is read: tracked, frozen, or an object of the module -/
def SqL (K : PySem.W.Frag) (H : Hp) (a : Addr) (xs : List V) : Prop :=
  Rd H a (.lst xs) ∨
    ∃ (o : Obj) (its : Array Value) (n : Nat), K.lookup a = some o ∧ o.cls = .type "list" ∧ o.dict = none ∧ o.data = .seq its n ∧ its.size ≤ sizeLine ∧ Vals xs its.toList
def SqT (K : PySem.W.Frag) (H : Hp) (a : Addr) (xs : List V) : Prop :=
  Rd H a (.tup xs) ∨
    ∃ (o : Obj) (its : Array Value) (n : Nat), K.lookup a = some o ∧ o.cls = .type "tuple" ∧ o.data = .seq its n ∧ its.size ≤ sizeLine ∧ Vals xs its.toList
def absV : Value → Option V
  | .none => some .non
  | .bool b => some (.bl b)
  | .int i _ => some (.int i)
  | .str x _ => some (.str x)
  | .bytes b _ => some (.byt b)
  | .float b _ => some (.flt b)
  | .ref a => some (.ref a)
  | .type n => some (.ty n)
  | _ => none
theorem RelV.abs {x : V} {u : Value} (r : RelV x u) : absV u = some x := by
  cases x with
  | non => cases r; rfl
  | bl _ => cases r; rfl
  | int _ => obtain ⟨t, rfl⟩ := r; rfl
  | str _ => obtain ⟨t, rfl⟩ := r; rfl
  | byt _ => obtain ⟨t, rfl⟩ := r; rfl
  | flt _ => obtain ⟨t, rfl⟩ := r; rfl
  | ref _ => cases r; rfl
  | ty _ => cases r; rfl
theorem RelV.inj {x y : V} {u : Value} (r : RelV x u) (q : RelV y u) : x = y := Option.some.inj (r.abs.symm.trans q.abs)
theorem Vals.inj : ∀ {xs ys : List V} {us : List Value}, Vals xs us → Vals ys us → xs = ys
  | _, _, _, .nil, .nil => rfl
  | _, _, _, .cons r t, .cons r' t' => by rw [r.inj r', Vals.inj t t']
section
variable {X : Cx} {pins : List (Addr × Obj)} {σ : St} {H : Hp} {s : Shared} {a : Addr} {xs ys : List V}
theorem SqL.of {K : PySem.W.Frag} (h : H a = some (.lst xs)) : SqL K H a xs := .inl (.inl h)
theorem SqT.of {K : PySem.W.Frag} (h : H a = some (.tup xs)) : SqT K H a xs := .inl (.inl h)
theorem Inv.list (I : Inv X pins σ H s) (h : SqL X.K H a xs) : ∃ its : List Value, Vals xs its ∧ PlainL s.heap a its.toArray ∧ xs.length ≤ sizeLine := by
  rcases h with h | ⟨o, its, n, hk, hc, hd, hs, hz, r⟩
  · obtain ⟨z, its, n, r, e⟩ := h.ok I.hok
    exact ⟨its, r, ⟨_, n, e, rfl, rfl, rfl⟩, z⟩
  · refine ⟨its.toList, r, ⟨o, n, I.kIn a o hk, hc, hd, by simpa using hs⟩, ?_⟩
    have e := r.length
    simp only [Array.length_toList] at e
    omega
theorem Inv.tuple (I : Inv X pins σ H s) (h : SqT X.K H a xs) : ∃ its : List Value, Vals xs its ∧ IsTup s.heap a its.toArray ∧ xs.length ≤ sizeLine := by
  rcases h with h | ⟨o, its, n, hk, hc, hs, hz, r⟩
  · obtain ⟨z, its, r, p⟩ := h.ok I.hok
    exact ⟨its, r, p, z⟩
  · refine ⟨its.toList, r, ⟨o, I.kIn a o hk, hc, n, by simpa using hs⟩, ?_⟩
    have e := r.length
    simp only [Array.length_toList] at e
    omega
theorem Inv.list_inj (I : Inv X pins σ H s) (h : SqL X.K H a xs) (h' : SqL X.K H a ys) : xs = ys := by
  obtain ⟨its, r, ⟨o, n, e, _, _, d⟩, _⟩ := I.list h
  obtain ⟨its', r', ⟨o', n', e', _, _, d'⟩, _⟩ := I.list h'
  rw [e] at e'; cases e'
  rw [d] at d'
  injection d' with d1 _
  have : its = its' := by simpa using congrArg Array.toList d1
  subst this
  exact r.inj r'
end

/-! ### another wish about exceptions -/
abbrev Cx.wish (X : Cx) (E : Value → Shared → Prop) : Cx := { X with xe := E }
/-- no exception leaves -/
abbrev Cx.nox (X : Cx) : Cx := X.wish fun _ _ => False
theorem Cx.Ok.wish {X : Cx} (ok : X.Ok) (E : Value → Shared → Prop) : (X.wish E).Ok :=
  ⟨ok.mod, ok.kind, ok.glob, ok.blt, ok.above, ok.inj, ok.has, ok.cab, ok.hd, ok.frames, ok.stk, ok.exf, ok.bs, ok.bsz, ok.noex, ok.exfs, ok.funs, ok.frf⟩
theorem Cx.Ok.unwish {X : Cx} {E : Value → Shared → Prop} (ok : (X.wish E).Ok) : X.Ok :=
  ⟨ok.mod, ok.kind, ok.glob, ok.blt, ok.above, ok.inj, ok.has, ok.cab, ok.hd, ok.frames, ok.stk, ok.exf, ok.bs, ok.bsz, ok.noex, ok.exfs, ok.funs, ok.frf⟩
section
variable {X : Cx} {pins : List (Addr × Obj)} {σ : St} {H : Hp} {s : Shared} {E : Value → Shared → Prop}
theorem Inv.wish (I : Inv X pins σ H s) (E : Value → Shared → Prop) : Inv (X.wish E) pins σ H s := ⟨I.ok.wish E, I.os, I.bare, I.base, I.loc, I.cell, I.free, I.freeC, I.pin, I.hok, I.len⟩
theorem Inv.unwish (I : Inv (X.wish E) pins σ H s) : Inv X pins σ H s := ⟨I.ok.unwish, I.os, I.bare, I.base, I.loc, I.cell, I.free, I.freeC, I.pin, I.hok, I.len⟩
theorem SP.unwish {D : Ends} {f : Flow} {s' : Shared} (h : SP (X.wish E) pins D f s') : SP X pins D f s' := by
  cases f with
  | next => obtain ⟨σ', H', I, q⟩ := h; exact ⟨σ', H', I.unwish, q⟩
  | brk => obtain ⟨σ', H', I, q⟩ := h; exact ⟨σ', H', I.unwish, q⟩
  | cont => obtain ⟨σ', H', I, q⟩ := h; exact ⟨σ', H', I.unwish, q⟩
  | ret u => obtain ⟨v, σ', H', I, r, q⟩ := h; exact ⟨v, σ', H', I.unwish, r, q⟩
theorem PE.nox {e : Expr} {t : TE} (h : PE X.nox e t) : PE X e t := fun pins s σ H Q I hw =>
  wpAny_mono (h pins s σ H Q (I.wish _) hw) (fun _ _ ⟨v, H', I', r, q⟩ => ⟨v, H', I'.unwish, r, q⟩) fun _ _ z => False.elim z
theorem PT.nox {e : Expr} {t : TT} (h : PT X.nox e t) : PT X e t := fun pins s σ H Q I hw =>
  wpAny_mono (h pins s σ H Q (I.wish _) hw) (fun _ _ ⟨H', I', q⟩ => ⟨H', I'.unwish, q⟩) fun _ _ z => False.elim z
theorem PSs.nox {st : List Stmt} {t : TS} (h : PSs X.nox st t) : PSs X st t := fun pins s σ H D I hw =>
  wpAny_mono (h pins s σ H D (I.wish _) hw) (fun _ _ q => q.unwish) fun _ _ z => False.elim z
end

/-! ### blocks and small statements -/
section
variable {X : Cx} {st : Stmt} {rest : List Stmt} {t u : TS} {e : Expr} {te : TE} {pos : Pos}
def tNext : TS := fun D σ H => D.nx σ H
def tSeq (t u : TS) : TS := fun D σ H => t { D with nx := u D } σ H
theorem pss_nil : PSs X [] tNext := fun _ _ σ H _ I h => wpAny_execs_nil ⟨σ, H, I, h⟩
theorem pss_cons (h1 : PS X st t) (h2 : PSs X rest u) : PSs X (st :: rest) (tSeq t u) := by
  intro pins s σ H D I h
  refine wpAny_execs_cons (thn (h1 pins s σ H { D with nx := u D } I h) fun f s1 q => ?_)
  cases f with
  | next =>
    obtain ⟨σ', H', I', q⟩ := q
    exact h2 pins s1 σ' H' D I' q
  | ret v => exact q
  | brk => exact q
  | cont => exact q
theorem pss_one (h1 : PS X st t) : PSs X [st] t := by
  intro pins s σ H D I h
  refine wpAny_execs_cons (thn (h1 pins s σ H D I h) fun f s1 q => ?_)
  cases f with
  | next => exact wpAny_execs_nil q
  | ret v => exact q
  | brk => exact q
  | cont => exact q
/-- in a def's body nothing is shown -/
theorem Inv.quiet {pins : List (Addr × Obj)} {σ : St} {H : Hp} {s : Shared} (I : Inv X pins σ H s) : interactive X.env = false := by simp [interactive, I.ok.kind]
/-- an expression whose value is dropped -/
def tDrop (te : TE) : TS := fun D σ H => te σ H fun _ H1 => D.nx σ H1
theorem ps_expr (he : PE X e te) (hs : swapsWith e none pos.line X.env = pure false := by rfl) : PS X (.Expr e pos) (tDrop te) := by
  intro pins s σ H D I h
  exact wpAny_Expr_any (thn (he pins s σ H _ I h) fun v s1 ⟨x, H1, I1, r1, q1⟩ => ⟨σ, H1, I1, q1⟩) I.quiet hs
def tRet (te : TE) : TS := fun D σ H => te σ H D.rt
theorem ps_ret (he : PE X e te) : PS X (.Return (some e) pos) (tRet te) := by
  intro pins s σ H D I h
  exact wpAny_Return_some (thn (he pins s σ H _ I h) fun v s1 ⟨x, H1, I1, r1, q1⟩ => ⟨x, σ, H1, I1, r1, q1⟩)
def tIfS (c : TT) (t u : TS) : TS := fun D σ H => c σ H fun b H1 => if b = true then t D σ H1 else u D σ H1
theorem ps_if {c : Expr} {a b : List Stmt} {tc : TT} (hc : PT X c tc) (ha : PSs X a t) (hb : PSs X b u) : PS X (.If c a b pos) (tIfS tc t u) := by
  intro pins s σ H D I h
  refine wpAny_If (thn (hc pins s σ H _ I h) fun d s1 ⟨H1, I1, q1⟩ => ?_)
  cases d with
  | true => exact ha pins s1 σ H1 D I1 q1
  | false => exact hb pins s1 σ H1 D I1 q1
/-- code that the proof never comes to -/
def tNever : TS := fun _ _ _ => False
theorem pss_never {sts : List Stmt} : PSs X sts tNever := fun _ _ _ _ _ _ h => h.elim
end

/-! ### targets -/
abbrev TG := V → St → Hp → (St → Hp → Prop) → Prop
abbrev TGs := List V → St → Hp → (St → Hp → Prop) → Prop
def PG (X : Cx) (target : Expr) (t : TG) : Prop :=
  ∀ (pins : List (Addr × Obj)) (s : Shared) (σ : St) (H : Hp) (v : V) (u : Value) (Q : St → Hp → Prop), Inv X pins σ H s → RelV v u → t v σ H Q →
    wpAny (model X.prog X.w) X.A (assign target X.env u) (fun _ s' => ∃ σ' H', Inv X pins σ' H' s' ∧ Q σ' H') X.xe s
/-- several targets, one after another -/
def PGs (X : Cx) (ts : List Expr) (t : TGs) : Prop :=
  ∀ (pins : List (Addr × Obj)) (s : Shared) (σ : St) (H : Hp) (vs : List V) (us : List Value) (Q : St → Hp → Prop), Inv X pins σ H s → Vals vs us → t vs σ H Q →
    wpAny (model X.prog X.w) X.A (assignInOrder ((assignEach ts X.env).map (·.2)) us) (fun _ s' => ∃ σ' H', Inv X pins σ' H' s' ∧ Q σ' H') X.xe s
/-- o[i] = v, by values -/
abbrev TSet := V → V → V → Hp → (Hp → Prop) → Prop
def PSet (X : Cx) (t : TSet) : Prop :=
  ∀ (pins : List (Addr × Obj)) (s : Shared) (σ : St) (H : Hp) (o i v : V) (ov iv u : Value) (Q : Hp → Prop), Inv X pins σ H s → RelV o ov → RelV i iv → RelV v u → t o i v H Q →
    wpAny (model X.prog X.w) X.A (setItem ov iv u) (fun _ s' => ∃ H', Inv X pins σ H' s' ∧ Q H') X.xe s
/-- a op= b, by values -/
abbrev TIp := V → V → Hp → VK → Prop
def PIp (X : Cx) (op : Operator) (t : TIp) : Prop :=
  ∀ (pins : List (Addr × Obj)) (s : Shared) (σ : St) (H : Hp) (x y : V) (v u : Value) (Q : VK), Inv X pins σ H s → RelV x v → RelV y u → t x y H Q →
    wpAny (model X.prog X.w) X.A (inplaceOp op v u) (EP X pins σ Q) X.xe s
section
variable {X : Cx} {pos : Pos}
def gName (i : Nat) : TG := fun v σ H Q => Q (σ.set i (some v)) H
theorem pg_name {i : Nat} {x : Str} (hN : X.N.Nodup) (hi : X.N[i]? = some x) (hx : Loc X.env.scope x) (hf : X.fn x = true ∨ X.env.scope.names.lookup x = some .local := by first | exact .inl rfl | exact .inr rfl | assumption) : PG X (.Name x pos) (gName i) := by
  intro pins s σ H v u Q I r h
  exact wpAny_assign_Name (store_ok I hN hi hx r (fun s' I' => ⟨_, H, I', h⟩) hf)
def gNil : TGs := fun vs σ H Q => vs = [] ∧ Q σ H
def gCons (t : TG) (u : TGs) : TGs := fun vs σ H Q => ∃ v r, vs = v :: r ∧ t v σ H fun σ' H' => u r σ' H' Q
theorem pgs_nil : PGs X [] gNil := by
  intro pins s σ H vs us Q I r h
  obtain ⟨e, h⟩ := h
  subst e
  cases r
  exact assignInOrder_nil ⟨σ, H, I, h⟩
theorem pgs_cons {e : Expr} {es : List Expr} {t : TG} {u : TGs} (h1 : PG X e t) (h2 : PGs X es u)
    (hs : (assignEach (e :: es) X.env).map (·.2) = assign e X.env :: (assignEach es X.env).map (·.2) := by rfl) : PGs X (e :: es) (gCons t u) := by
  intro pins s σ H vs us Q I r h
  obtain ⟨v, vr, e1, h⟩ := h
  subst e1
  cases r with
  | cons r rr =>
    rw [hs]
    refine assignInOrder_cons (thn (h1 pins s σ H _ _ _ I r h) fun _ s1 ⟨σ1, H1, I1, q1⟩ => ?_)
    exact h2 pins s1 σ1 H1 _ _ Q I1 rr q1
/-- (a, b, ..) = a tuple of that length -/
def gTup (K : PySem.W.Frag) (n : Nat) (t : TGs) : TG := fun v σ H Q => ∃ a xs, v = .ref a ∧ SqT K H a xs ∧ xs.length = n ∧ t xs σ H Q
theorem pg_tup {es : List Expr} {k : Nat} {t : TGs} {n : Nat} (hc : X.calm = true) (h : PGs X es t)
    (hn : (assignEach es X.env).length = n := by rfl) (hst : (assignEach es X.env).findIdx? (·.1) = none := by rfl) : PG X (.Tuple es k pos) (gTup X.K n t) := by
  intro pins s σ H v u Q I r hw
  obtain ⟨a, xs, e1, hq, hl, hw⟩ := hw
  subst e1
  cases r
  obtain ⟨its, rv, ht, hz⟩ := I.tuple hq
  refine assign_Tuple_tuple (I.ok.hd hc) ht (by simp [hn, ← hl, rv.length]) hst fun h' hx => ?_
  have I1 : Inv X pins σ H { s with heap := h' } := I.kept (t' := s.toks) fun b o e => hx b o (Nat.ne_of_lt (Heap.lt_size e)) e
  exact h pins _ σ H xs _ Q I1 (by simpa using rv) hw
/-- target = value -/
def tAsg (te : TE) (g : TG) : TS := fun D σ H => te σ H fun x H1 => g x σ H1 D.nx
theorem ps_asg {tg e : Expr} {te : TE} {g : TG} (he : PE X e te) (hg : PG X tg g) (hs : swapsWithSole [tg] e pos.line X.env = pure false := by rfl) (hw : swappedStores [tg] e X.env = pure none := by rfl)
    (h1 : (assignEach [tg] X.env).map (·.2) = [assign tg X.env] := by rfl) : PS X (.Assign [tg] e pos) (tAsg te g) := by
  intro pins s σ H D I h
  refine wpAny_Assign_stores (thn (he pins s σ H _ I h) fun v s1 ⟨x, H1, I1, r1, q1⟩ => ?_) hs hw
  rw [h1]
  exact thn (hg pins s1 σ H1 x v _ I1 r1 q1) fun _ s2 q => q
/-- name = value -/
theorem ps_set {i : Nat} {x : Str} {e : Expr} {te : TE} {pos' : Pos} (hN : X.N.Nodup) (hi : X.N[i]? = some x) (hx : Loc X.env.scope x) (he : PE X e te) (hs : swapsWith e (some (.Name x pos')) pos.line X.env = pure false := by rfl) (hf : X.fn x = true ∨ X.env.scope.names.lookup x = some .local := by first | exact .inl rfl | exact .inr rfl | assumption) :
    PS X (.Assign [.Name x pos'] e pos) (tAsg te (gName i)) := by
  intro pins s σ H D I h
  refine wpAny_Assign_Name (thn (he pins s σ H _ I h) fun v s1 ⟨y, H1, I1, r1, q1⟩ => ?_) hs
  exact store_ok I1 hN hi hx r1 (fun s2 I2 => ⟨_, H1, I2, q1⟩) hf
/-- a, b = x, y with plain local names: stored from the right; the pair itself is not tracked (the opening rows as in PyProof/Rows/TupAssign.lean:23) -/
def tPar (i j : Nat) (ta : TA) : TS := fun D σ H => ta σ H fun vs H1 => ∃ v w, vs = [v, w] ∧ D.nx ((σ.set i (some v)).set j (some w)) H1
theorem ps_par {i j : Nat} {x y : Str} {a b : Expr} {ta : TA} {px py pt : Pos} {kt k2 pt2} (hc : X.calm = true) (hN : X.N.Nodup) (hi : X.N[i]? = some x) (hj : X.N[j]? = some y) (hij : i ≠ j)
    (hx : X.env.scope.names.lookup x = some .local) (hy : X.env.scope.names.lookup y = some .local) (ha : PA X [a, b] ta)
    (hw : swappedStores [.Tuple [.Name x px, .Name y py] kt pt] (.Tuple [a, b] k2 pt2) X.env = pure (some [x, y]))
    (hs : swapsWithSole [.Tuple [.Name x px, .Name y py] kt pt] (.Tuple [a, b] k2 pt2) pos.line X.env = pure false := by rfl) :
    PS X (.Assign [.Tuple [.Name x px, .Name y py] kt pt] (.Tuple [a, b] k2 pt2) pos) (tPar i j ta) := by
  intro pins s σ H D I h
  rw [exec_Assign_arm]
  refine wpAny_bind (wpAny_standAt ?_)
  rw [hs]
  refine wpAny_bind (wpAny_pure ?_)
  rw [if_neg (by decide)]
  refine wpAny_bind (Tuple_ (thn (ha _ pins s σ H _ I h) fun us s1 ⟨vs, H1, I1, r1, q1⟩ => ?_))
  obtain ⟨v, w, e1, q1⟩ := q1
  subst e1
  obtain ⟨u1, u2, rfl, rv, rw'⟩ : ∃ u1 u2, us = [u1, u2] ∧ RelV v u1 ∧ RelV w u2 := by
    cases r1 with
    | cons p q =>
      cases q with
      | cons p' q' =>
        cases q'
        exact ⟨_, _, rfl, p, p'⟩
  refine wpAny_newObj_type ?_ (by show 2 ≤ sizeLine; decide)
  have I2 : Inv X pins σ H1 { s1 with heap := s1.heap.push { cls := .type "tuple", data := .seq [u1, u2].toArray } } := I1.kept (t' := s1.toks) fun b o e => Heap.get?_push_of_some _ e
  rw [hw]
  refine wpAny_bind (wpAny_pure ?_)
  show wpAny (model X.prog X.w) X.A (do rule "assign.swapped-stores"; let items ← unpackItems (.ref s1.heap.objs.size) 2 none; assignInOrder [fun v => bindName X.env y v, fun v => bindName X.env x v] items.reverse; pure Flow.next) _ _ _
  refine wpAny_bind (wpAny_rule (wpAny_bind (unpackItems_tuple (items := #[u1, u2]) (I.ok.hd hc) (IsTup.new s1.heap _) fun h' hx' => ?_)))
  have I3 := I2.kept (h' := h') (t' := s1.toks) fun b o e => hx' b o (Nat.ne_of_lt (Heap.lt_size e)) e
  show wpAny _ _ (assignInOrder [fun v => bindName X.env y v, fun v => bindName X.env x v] [u2, u1] >>= fun _ => pure Flow.next) _ _ _
  refine wpAny_bind (assignInOrder_cons (wpAny_bindName (store_ok I3 hN hj (.inl hy) rw' (fun s2 I4 => ?_) (.inr hy))))
  refine assignInOrder_cons (wpAny_bindName (store_ok I4 hN hi (.inl hx) rv (fun s3 I5 => assignInOrder_nil (wpAny_pure ?_)) (.inr hx)))
  rw [List.set_comm _ _ (Ne.symm hij)] at I5
  exact ⟨_, H1, I5, q1⟩
/-- name op= e -/
def tAug (i : Nat) (te : TE) (ti : TIp) : TS := fun D σ H => ∃ x, σ[i]? = some (some x) ∧ te σ H fun y H1 => ti x y H1 fun z H2 => D.nx (σ.set i (some z)) H2
theorem ps_aug {i : Nat} {x : Str} {e : Expr} {te : TE} {op : Operator} {ti : TIp} {pos' : Pos} (hN : X.N.Nodup) (hi : X.N[i]? = some x) (hx : Loc X.env.scope x) (he : PE X e te) (ho : PIp X op ti) (hf : X.fn x = true ∨ X.env.scope.names.lookup x = some .local := by first | exact .inl rfl | exact .inr rfl | assumption) :
    PS X (.AugAssign (.Name x pos') op e pos) (tAug i te ti) := by
  intro pins s σ H D I h
  obtain ⟨v, e1, h⟩ := h
  obtain ⟨m, hn, hl⟩ := I.loc
  have vis : Vis X.env.scope x := by rcases hx with k | k; exact .inl k; exact .inr (.inl k)
  obtain ⟨u, r, l⟩ := hl i x v hi e1 vis
  refine wpAny_AugAssign_Name ?_
  have go : wpAny (model X.prog X.w) X.A (eval e X.env) (fun w s₂ => wpAny (model X.prog X.w) X.A (inplaceOp op u w) (fun r s₃ => wpAny (model X.prog X.w) X.A (storeName X.env x r) (fun _ => SP X pins D .next) X.xe s₃) X.xe s₂) X.xe s := by
    refine thn (he pins s σ H _ I h) fun w s1 ⟨y, H1, I1, r1, q1⟩ => ?_
    refine thn (ho pins s1 σ H1 v y u w _ I1 r r1 q1) fun z s2 ⟨zv, H2, I2, r2, q2⟩ => ?_
    exact store_ok I2 hN hi hx r2 (fun s3 I3 => ⟨_, H2, I3, q2⟩) hf
  rcases l with ⟨hk, hm⟩ | ⟨hk, c, hc, hcell⟩
  · exact wpAny_loadName_local I.ok.kind hk hn hm go
  · rcases hk with hk | hk
    · exact wpAny_loadName_cell I.ok.kind hk hc hcell go
    · rcases hx with k | k
      · have : X.env.scope.names.lookup x = some .free := hk
        rw [k] at this; cases this
      · have : X.env.scope.names.lookup x = some .free := hk
        rw [k] at this; cases this
/-- o[i] op= e -/
def tAugS (to ti te : TE) (tget : V → V → Hp → VK → Prop) (tip : TIp) (tset : TSet) : TS := fun D σ H => to σ H fun o H1 => ti σ H1 fun i H2 => tget o i H2 fun x H3 => te σ H3 fun y H4 => tip x y H4 fun z H5 => tset o i z H5 fun H6 => D.nx σ H6
/-- o[i], by values -/
def PGet (X : Cx) (t : V → V → Hp → VK → Prop) : Prop :=
  ∀ (pins : List (Addr × Obj)) (s : Shared) (σ : St) (H : Hp) (o i : V) (ov iv : Value) (Q : VK), Inv X pins σ H s → RelV o ov → RelV i iv → t o i H Q →
    wpAny (model X.prog X.w) X.A (getItem ov iv) (EP X pins σ Q) X.xe s
theorem ps_augS {o i e : Expr} {to ti te : TE} {tget : V → V → Hp → VK → Prop} {tip : TIp} {tset : TSet} {op : Operator} {tpos : Pos} (ho : PE X o to) (hi : PE X i ti) (hg : PGet X tget) (he : PE X e te) (hp : PIp X op tip) (hs : PSet X tset)
    (ha : ∀ ov iv new, augStore i ov iv new = (do holding [new, ov, iv] (setItem ov iv new); release [new, ov, iv] []; pure .next) := by intros; rfl) : PS X (.AugAssign (.Subscript o i tpos) op e pos) (tAugS to ti te tget tip tset) := by
  intro pins s σ H D I h
  refine wpAny_AugAssign_SubscriptAny (thn (ho pins s σ H _ I h) fun ov s1 ⟨x1, H1, I1, r1, q1⟩ => ?_) ha
  refine thn (hi pins s1 σ H1 _ I1 q1) fun iv s2 ⟨x2, H2, I2, r2, q2⟩ => ?_
  refine thn (hg pins s2 σ H2 x1 x2 ov iv _ I2 r1 r2 q2) fun old s3 ⟨x3, H3, I3, r3, q3⟩ => ?_
  refine thn (he pins s3 σ H3 _ I3 q3) fun v s4 ⟨x4, H4, I4, r4, q4⟩ => ?_
  refine thn (hp pins s4 σ H4 x3 x4 old v _ I4 r3 r4 q4) fun new s5 ⟨x5, H5, I5, r5, q5⟩ => ?_
  exact thn (hs pins s5 σ H5 x1 x2 x5 ov iv new _ I5 r1 r2 r5 q5) fun _ s6 ⟨H6, I6, q6⟩ => ⟨σ, H6, I6, q6⟩
/-- ints -/
def ipI (f : Int → Int → Int) : TIp := fun x y H Q => ∃ i j, x = .int i ∧ y = .int j ∧ Q (.int (f i j)) H
theorem ip_add : PIp X .Add (ipI fun i j => i + j) := by
  intro pins s σ H x y v u Q I r1 r2 h
  obtain ⟨i, j, e1, e2, q⟩ := h
  subst e1; subst e2
  obtain ⟨t, rfl⟩ := r1
  obtain ⟨t', rfl⟩ := r2
  exact iadd_int ⟨.int _, H, I.tok _, ⟨_, rfl⟩, q⟩
theorem ip_sub : PIp X .Sub (ipI fun i j => i - j) := by
  intro pins s σ H x y v u Q I r1 r2 h
  obtain ⟨i, j, e1, e2, q⟩ := h
  subst e1; subst e2
  obtain ⟨t, rfl⟩ := r1
  obtain ⟨t', rfl⟩ := r2
  exact isub_int ⟨.int _, H, I.tok _, ⟨_, rfl⟩, q⟩
end

/-! ### while -/
section
variable {X : Cx} {pos : Pos}
/-- the invariant W with its measure -/
def tWhile (c : TT) (tb : TS) : TS := fun D σ H => ∃ W : Nat → St → Hp → Prop, (∃ m, W m σ H) ∧ ∀ m σ H, W m σ H →
  c σ H fun b H1 => if b = true then ∃ N : St → Hp → Prop, (∀ σ' H', N σ' H' → ∃ m', m' < m ∧ W m' σ' H') ∧ tb { D with nx := N, ct := N, bk := D.nx } σ H1 else D.nx σ H1
theorem ps_while {c : Expr} {body : List Stmt} {tc : TT} {tb : TS} (hp : PassesOwn (model X.prog X.w) X.A X.env X.xe) (hc : PT X c tc) (hb : PSs X body tb) : PS X (.While c body [] pos) (tWhile tc tb) := by
  intro pins s σ H D I h
  obtain ⟨W, ⟨m0, w0⟩, turn⟩ := h
  refine wpAny_While (codeAny_whileLoop (fun n s' => ∃ σ' H', Inv X pins σ' H' s' ∧ W n σ' H') ?_ m0 ⟨σ, H, I, w0⟩)
  rintro n s1 ⟨σ1, H1, I1, w1⟩
  refine wpAny_passesOwn hp (thn (hc pins s1 σ1 H1 _ I1 (turn n σ1 H1 w1)) fun b s2 ⟨H2, I2, q2⟩ => ?_)
  cases b with
  | true =>
    obtain ⟨N, hN, q2⟩ := q2
    rw [if_pos rfl]
    refine wpAny_passesOwn hp (thn (hb pins s2 σ1 H2 _ I2 q2) fun f s3 q3 => ?_)
    cases f with
    | next =>
      obtain ⟨σ3, H3, I3, n3⟩ := q3
      obtain ⟨m', hm, w3⟩ := hN σ3 H3 n3
      exact ⟨m', hm, σ3, H3, I3, w3⟩
    | cont =>
      obtain ⟨σ3, H3, I3, n3⟩ := q3
      obtain ⟨m', hm, w3⟩ := hN σ3 H3 n3
      exact ⟨m', hm, σ3, H3, I3, w3⟩
    | brk => exact q3
    | ret v => exact q3
  | false =>
    rw [if_neg Bool.false_ne_true]
    exact wpAny_execs_nil ⟨σ1, H2, I2, q2⟩
end

/-! ### what a loop or a comprehension walks -/
/-- at turn i: it yields x (the heap may grow), or it stops -/
structure It where
  go : Nat → Hp → Prop
  yld : Nat → Hp → V → Hp → Prop
  stop : Nat → Hp → Prop
/-- the iterator's own objects may turn: they are not the frame's, not pinned, younger than the entry (or a comprehension's own) -/
def FpOk (X : Cx) (pins : List (Addr × Obj)) (H : Hp) (b : Addr) : Prop :=
  H b = none ∧ b ≠ X.env.locals ∧ b ∉ X.fs ∧ (b ∈ X.ex ∨ X.s_0.heap.objs.size ≤ b) ∧ (∀ x c, X.env.cells.lookup x = some c → c ≠ b) ∧ ∀ p ∈ X.pn ++ pins, p.1 ≠ b
theorem Inv.fpOk {X : Cx} {pins : List (Addr × Obj)} {σ : St} {H H' : Hp} {s : Shared} {b : Addr} (I : Inv X pins σ H s) (hb : s.heap.objs.size ≤ b) (hn : H' b = none) : FpOk X pins H' b := by
  refine ⟨hn, Nat.ne_of_gt (Nat.lt_of_lt_of_le I.lt hb), I.nofs hb, .inr (Nat.le_trans I.sz hb), fun x c e z => ?_, fun p hp z => ?_⟩
  · obtain ⟨v, q⟩ := I.cell x c e
    exact absurd (Nat.lt_of_lt_of_le q.lt (by rw [z]; exact hb)) (Nat.lt_irrefl _)
  · exact absurd (Nat.lt_of_lt_of_le (Heap.lt_size (I.pin p hp).1) (by rw [z]; exact hb)) (Nat.lt_irrefl _)
structure Turn (P : Program) (w : World) (K : PySem.W.Frag) (tg : Expr) (J : It) (fp : List Addr) (it : Addr) (tn : Nat → Heap → Prop) : Prop where
  mem : it ∈ fp
  obj : ∀ i h, tn i h → ∀ b ∈ fp, ∃ o, h.get? b = some o ∧ ∀ v, o.data ≠ .cell v
  keep : ∀ i h h', tn i h → (∀ b ∈ fp, ∀ o, h.get? b = some o → h'.get? b = some o) → tn i h'
  item : ∀ (X : Cx), X.prog = P → X.w = w → X.K = K → X.calm = true → ∀ (i : Nat) (pins : List (Addr × Obj)) (s : Shared) (σ : St) (H : Hp) (E : Value → Shared → Prop), Inv X pins σ H s → (∀ b ∈ fp, FpOk X pins H b) → tn i s.heap → J.go i H →
    wpAny (model P w) X.A (pyNext (.ref it)) (fun r s1 => ∃ u, r = some u ∧
      wpAny (model P w) X.A (letOwnedTupleGo tg (.ref it) u) (fun _ s2 => ∃ x H', Inv X pins σ H' s2 ∧ RelV x u ∧ J.yld i H x H' ∧ tn (i + 1) s2.heap ∧ ∀ b ∈ fp, H' b = none) E s1) E s
  done : ∀ (X : Cx), X.prog = P → X.w = w → X.K = K → X.calm = true → ∀ (i : Nat) (pins : List (Addr × Obj)) (s : Shared) (σ : St) (H : Hp) (E : Value → Shared → Prop), Inv X pins σ H s → (∀ b ∈ fp, FpOk X pins H b) → tn i s.heap → J.stop i H →
    wpAny (model P w) X.A (pyNext (.ref it)) (fun r s1 => r = none ∧ Inv X pins σ H s1) E s
  self : ∀ (A : Around) (i : Nat) (s : Shared) (Q : Value → Shared → Prop) (E : Value → Shared → Prop), tn i s.heap → Q (.ref it) s → wpAny (model P w) A (pyIter (.ref it)) Q E s
abbrev TI := St → Hp → (It → Hp → Prop) → Prop
/-- an iterator has come -/
def PIE (X : Cx) (pins : List (Addr × Obj)) (σ : St) (tg : Expr) (R : It → Hp → Prop) (itv : Value) (s2 : Shared) : Prop :=
  ∃ (it : Addr) (fp : List Addr) (tn : Nat → Heap → Prop) (J : It) (H' : Hp), itv = .ref it ∧ Inv X pins σ H' s2 ∧ Turn X.prog X.w X.K tg J fp it tn ∧ tn 0 s2.heap ∧ (∀ b ∈ fp, FpOk X pins H' b) ∧ R J H'
def PI (X : Cx) (tg iter : Expr) (wi : TI) : Prop :=
  ∀ (pins : List (Addr × Obj)) (s : Shared) (σ : St) (H : Hp) (R : It → Hp → Prop), Inv X pins σ H s → wi σ H R →
    wpAny (model X.prog X.w) X.A (eval iter X.env) (fun v s1 => wpAny (model X.prog X.w) X.A (pyIter v) (PIE X pins σ tg R) X.xe s1) X.xe s

/-- the step ahead of the store is nothing for an iterator that keeps no tuple -/
theorem go_of {M : Model} {A : Around} {E : Value → Shared → Prop} {s : Shared} {tg : Expr} {it : Addr} {u : Value} {o : Obj} {n : String} {vs : Array Value} {Q : Unit → Shared → Prop} (ho : s.heap.get? it = some o) (hc : o.cls = .type n) (hd : o.data = .fields vs)
    (hn : ["enumerate", "zip", "dict_itemiterator", "dict_reverseitemiterator", "odict_iterator", "itertools.zip_longest", "itertools.pairwise"].contains n = false) (hQ : Q () s) : wpAny M A (letOwnedTupleGo tg (.ref it) u) Q E s := by
  unfold letOwnedTupleGo
  cases tg <;> first
    | exact wpAny_pure hQ
    | (cases u <;> first
        | exact wpAny_pure hQ
        | (refine wpAny_bind (wpAny_load ho ?_)
           rw [hc, hd]
           show wpAny M A (if (["enumerate", "zip", "dict_itemiterator", "dict_reverseitemiterator", "odict_iterator", "itertools.zip_longest", "itertools.pairwise"].contains n && vs[0]? == some (rawInt _)) = true then _ else _) Q E s
           rw [if_neg (by intro h; rw [hn, Bool.false_and] at h; cases h)]
           exact wpAny_pure hQ))

/-- the list at a, as it stands at each turn (a loop may append to it) -/
def Itl (K : PySem.W.Frag) (a : Addr) : It :=
  ⟨fun i H => ∃ xs x, SqL K H a xs ∧ xs[i]? = some x, fun i H x H' => H' = H ∧ ∀ xs, SqL K H a xs → xs[i]? = some x, fun i H => ∃ xs, SqL K H a xs ∧ xs.length ≤ i⟩
/-- lo, lo + 1, .. (n of them) -/
def Itr (lo : Int) (n : Nat) : It := ⟨fun i _ => i < n, fun i H x H' => H' = H ∧ x = .int (lo + i), fun i _ => n ≤ i⟩
theorem turn_list {P : Program} {w : World} {K : PySem.W.Frag} {tg : Expr} (a it : Addr) : Turn P w K tg (Itl K a) [it] it (fun i h => h.IsListIter it a i) where
  mem := by simp
  obj := fun i h st b hb => by
    have e : b = it := by simpa using hb
    subst e
    obtain ⟨o, e, c, d⟩ := st
    exact ⟨o, e, fun v z => by rw [d] at z; cases z⟩
  keep := fun i h h' st k => st.at fun o e => k it (by simp) o e
  item := by
    intro X hP hw hK hc i pins s σ H E I hf st hg
    subst hP hw hK
    obtain ⟨xs, x, hq, hx⟩ := hg
    obtain ⟨its, rv, p, hz⟩ := I.list hq
    obtain ⟨u, hu, ru⟩ := rv.get hx
    obtain ⟨f0, f1, f2, f3, f4, f5⟩ := hf it (by simp)
    refine wpAny_pyNext_list_item st p.isList (x := u) (by simpa using hu) fun h' st' sb => ?_
    have I1 : Inv X pins σ H { s with heap := h' } := I.turned (t' := s.toks) (fun b o hb e => (sb.2 b hb).trans e) f0 f1 f3 f4 f5
    obtain ⟨o, e, c, d⟩ := id st'
    exact ⟨u, rfl, go_of (s := { s with heap := h' }) e c d (by decide) ⟨x, H, I1, ru, ⟨rfl, fun ys hy => by rw [I.list_inj hy hq]; exact hx⟩, st', fun b hb => (hf b hb).1⟩⟩
  done := by
    intro X hP hw hK hc i pins s σ H E I hf st hg
    subst hP hw hK
    obtain ⟨xs, hq, hx⟩ := hg
    obtain ⟨its, rv, p, hz⟩ := I.list hq
    obtain ⟨f0, f1, f2, f3, f4, f5⟩ := hf it (by simp)
    have hl := rv.length
    exact wpAny_pyNext_list_end (I.ok.hd hc) st p.isList (by simp; omega) fun h' eb => ⟨rfl, I.turned (t' := s.toks) (fun b o hb e => eb b o hb e) f0 f1 f3 f4 f5⟩
  self := fun _ _ _ _ _ st h => wpAny_pyIter_listiter st h
theorem turn_range {P : Program} {w : World} {K : PySem.W.Frag} {tg : Expr} (it : Addr) (lo : Int) (n : Nat) : Turn P w K tg (Itr lo n) [it] it (fun i h => IsRangeIter h it (lo + (i : Nat) * 1) ((n : Int) - (i : Nat)) 1) where
  mem := by simp
  obj := fun i h st b hb => by
    have e : b = it := by simpa using hb
    subst e
    exact ⟨_, st, fun v z => by
      have z' : Data.fields _ = Data.cell v := z
      cases z'⟩
  keep := fun i h h' st k => k it (by simp) _ st
  item := by
    intro X hP hw hK hc i pins s σ H E I hf st hg
    subst hP hw hK
    obtain ⟨f0, f1, f2, f3, f4, f5⟩ := hf it (by simp)
    have W := Walks.range (prog := X.prog) (w := X.w) (I.ok.hd hc) it lo 1 n
    refine W.item i s _ _ hg st fun v h' tk hv st' kk => ?_
    obtain ⟨t, rfl⟩ := hv
    have I1 : Inv X pins σ H { s with heap := h', toks := tk } := I.turned (fun b o hb e => kk b o (by simpa using hb) e) f0 f1 f3 f4 f5
    refine ⟨_, rfl, go_of (s := { s with heap := h', toks := tk }) (n := "range_iterator") st' rfl rfl (by decide) ⟨.int (lo + i), H, I1, ⟨t, ?_⟩, ⟨rfl, rfl⟩, st', fun b hb => (hf b hb).1⟩⟩
    rw [Int.mul_one]
  done := by
    intro X hP hw hK hc i pins s σ H E I hf st hg
    subst hP hw hK
    obtain ⟨f0, f1, f2, f3, f4, f5⟩ := hf it (by simp)
    exact wpAny_pyNext_range_end (I.ok.hd hc) st (by have : n ≤ i := hg; omega) fun h' eb => ⟨rfl, I.turned (t' := s.toks) (fun b o hb e => eb b o hb e) f0 f1 f3 f4 f5⟩
  self := fun _ _ _ _ _ st h => wpAny_pyIter_rangeiter st h
end L2

namespace L2
open PySem PySem.Spec PyProof.Rows
section
variable {X : Cx} {tg : Expr}
def iList (K : PySem.W.Frag) (tl : TE) : TI := fun σ H R => tl σ H fun x H1 => ∃ a, x = .ref a ∧ (∃ xs, SqL K H1 a xs) ∧ R (Itl K a) H1
theorem pi_list {l : Expr} {tl : TE} (hl : PE X l tl) : PI X tg l (iList X.K tl) := by
  intro pins s σ H R I h
  refine thn (hl pins s σ H _ I h) fun v s1 ⟨x, H1, I1, r1, q1⟩ => ?_
  obtain ⟨a, e, ⟨xs, hq⟩, q⟩ := q1
  subst e
  cases r1
  obtain ⟨its, rv, p, hz⟩ := I1.list hq
  refine wpAny_pyIter_list p.isList ?_
  refine ⟨s1.heap.objs.size, [s1.heap.objs.size], _, _, H1, rfl, I1.kept (t' := s1.toks) fun b o e => Heap.get?_push_of_some _ e, turn_list a _, ⟨_, Heap.get?_push_size _ rfl, rfl, rfl⟩, fun b hb => ?_, q⟩
  have e : b = s1.heap.objs.size := by simpa using hb
  subst e
  exact I1.fpOk (Nat.le_refl _) (I1.hok.fresh (Nat.le_refl _))
/-- a range object just made, walked -/
theorem range_it {pins : List (Addr × Obj)} {σ : St} {H : Hp} {s : Shared} {R : It → Hp → Prop} {E : Value → Shared → Prop} {lo hi : Int} {t u v : Tok} {tk : Nat} (I : Inv X pins σ H s) (h1 : -(2 ^ 62) ≤ lo) (h2 : lo < 2 ^ 62) (h3 : -(2 ^ 62) ≤ hi) (h4 : hi < 2 ^ 62)
    (q : R (Itr lo (hi - lo).toNat) H) : wpAny (model X.prog X.w) X.A (pyIter (.ref s.heap.objs.size)) (PIE X pins σ tg R) E { s with heap := s.heap.push { cls := .type "range", data := .fields #[.int lo t, .int hi u, .int 1 v] }, toks := tk } := by
  refine wpAny_pyIter_range (IsRange.new ..) (small_one h1 h2 h3 h4) ?_
  have I1 : Inv X pins σ H { s with heap := s.heap.push { cls := .type "range", data := .fields #[.int lo t, .int hi u, .int 1 v] }, toks := tk } := I.kept fun b o e => Heap.get?_push_of_some _ e
  refine ⟨(s.heap.push { cls := .type "range", data := .fields #[.int lo t, .int hi u, .int 1 v] }).objs.size, [(s.heap.push { cls := .type "range", data := .fields #[.int lo t, .int hi u, .int 1 v] }).objs.size], _, _, H, rfl,
    I1.kept (t' := tk) fun b o e => Heap.get?_push_of_some _ e, turn_range _ lo (hi - lo).toNat, ?_, fun b hb => ?_, q⟩
  · have e1 : lo + ((0 : Nat) : Int) * 1 = lo := by simp
    have e2 : (((hi - lo).toNat : Nat) : Int) - ((0 : Nat) : Int) = Builtin.Range.rangeSize lo hi 1 := by rw [rangeSize_one]; split <;> omega
    show IsRangeIter _ _ (lo + ((0 : Nat) : Int) * 1) ((((hi - lo).toNat : Nat) : Int) - ((0 : Nat) : Int)) 1
    rw [e1, e2]
    exact Heap.get?_push_size _ rfl
  · have e : b = (s.heap.push { cls := .type "range", data := .fields #[.int lo t, .int hi u, .int 1 v] }).objs.size := by simpa using hb
    subst e
    exact I1.fpOk (Nat.le_refl _) (I1.hok.fresh (Nat.le_refl _))
def iRng1 (ta : TA) : TI := fun σ H R => ta σ H fun vs H1 => ∃ j : Int, vs = [.int j] ∧ -(2 ^ 62) ≤ j ∧ j < 2 ^ 62 ∧ R (Itr 0 j.toNat) H1
def iRng2 (ta : TA) : TI := fun σ H R => ta σ H fun vs H1 => ∃ i j : Int, vs = [.int i, .int j] ∧ (-(2 ^ 62) ≤ i ∧ i < 2 ^ 62 ∧ -(2 ^ 62) ≤ j ∧ j < 2 ^ 62) ∧ R (Itr i (j - i).toNat) H1
theorem pi_range1 {a : Expr} {ta : TA} {p pos : Pos} (hg : Gl X "range") (hm : X.mg "range" = none) (ha : PA X [a] ta) (hs : starEach [a] X.env = [(false, eval a X.env)] := by rfl) : PI X tg (.Call (.Name "range" p) [a] [] pos) (iRng1 ta) := by
  intro pins s σ H R I h
  refine Call_ (ld_blt I hg hm boot_range (PyProof.Rows.callWith_type1 (thn (ha pos pins s σ H _ I h) fun us s1 ⟨vs, H1, I1, r1, q1⟩ => ?_) hs rfl))
  obtain ⟨j, e, q1, q2, q⟩ := q1
  subst e
  cases r1 with
  | cons r rr =>
    cases rr
    obtain ⟨t, rfl⟩ := r
    exact call_range_1 (range_it I1 (by omega) (by omega) q1 q2 (by simpa using q))
theorem pi_range2 {a b : Expr} {ta : TA} {p pos : Pos} (hg : Gl X "range") (hm : X.mg "range" = none) (ha : PA X [a, b] ta) (hs : starEach [a, b] X.env = [(false, eval a X.env), (false, eval b X.env)] := by rfl) (hs2 : starEach [b] X.env = [(false, eval b X.env)] := by rfl) :
    PI X tg (.Call (.Name "range" p) [a, b] [] pos) (iRng2 ta) := by
  intro pins s σ H R I h
  refine Call_ (ld_blt I hg hm boot_range (PyProof.Rows.callWith_type1 (thn (ha pos pins s σ H _ I h) fun us s1 ⟨vs, H1, I1, r1, q1⟩ => ?_) (by rw [hs, hs2]) (by rw [hs2]; rfl)))
  obtain ⟨i, j, e, ⟨q1, q2, q3, q4⟩, q⟩ := q1
  subst e
  cases r1 with
  | cons r rr =>
    cases rr with
    | cons r' rr =>
      cases rr
      obtain ⟨t, rfl⟩ := r
      obtain ⟨t', rfl⟩ := r'
      exact call_range_2 (range_it I1 q1 q2 q3 q4 q)

/-! ### for -/
/-- W: the invariant by the turn and a measure; N: what the body is to reach -/
def tFor (wi : TI) (g : TG) (tb : TS) : TS := fun D σ H => wi σ H fun J H1 => ∃ W : Nat → Nat → St → Hp → Prop, (∃ m, W 0 m σ H1) ∧ ∀ i m σ H, W i m σ H →
  (J.stop i H ∧ D.nx σ H) ∨ (J.go i H ∧ ∃ N : St → Hp → Prop, (∀ σ' H', N σ' H' → ∃ m', m' < m ∧ W (i + 1) m' σ' H') ∧ ∀ x H', J.yld i H x H' → g x σ H' fun σ2 H2 => tb { D with nx := N, ct := N, bk := D.nx } σ2 H2)
/-- the records at fp as they stand -/
def pinsAt (fp : List Addr) (h : Heap) : List (Addr × Obj) := fp.filterMap fun b => (h.get? b).map fun o => (b, o)
theorem mem_pinsAt {fp : List Addr} {h : Heap} {b : Addr} {o : Obj} (hb : b ∈ fp) (e : h.get? b = some o) : (b, o) ∈ pinsAt fp h := List.mem_filterMap.mpr ⟨b, hb, by rw [e]; rfl⟩
theorem of_pinsAt {fp : List Addr} {h : Heap} {p : Addr × Obj} (hp : p ∈ pinsAt fp h) : p.1 ∈ fp ∧ h.get? p.1 = some p.2 := by
  obtain ⟨b, hb, e⟩ := List.mem_filterMap.mp hp
  cases q : h.get? b with
  | none => rw [q] at e; cases e
  | some o =>
    rw [q] at e
    have e' : (b, o) = p := Option.some.inj e
    subst e'
    exact ⟨hb, q⟩
theorem Inv.pinned {pins : List (Addr × Obj)} {σ : St} {H : Hp} {s : Shared} {fp : List Addr} (I : Inv X pins σ H s) (hf : ∀ b ∈ fp, FpOk X pins H b) (ho : ∀ b ∈ fp, ∃ o, s.heap.get? b = some o ∧ ∀ v, o.data ≠ .cell v) : Inv X (pins ++ pinsAt fp s.heap) σ H s :=
  I.pins_of fun p hp => (List.mem_append.mp hp).elim (fun z => I.pin p (List.mem_append_right _ z)) fun z => by
    obtain ⟨hb, e⟩ := of_pinsAt z
    obtain ⟨f0, f1, f2, _⟩ := hf p.1 hb
    obtain ⟨o, e', d⟩ := ho p.1 hb
    rw [e] at e'; cases e'
    exact ⟨e, f0, f1, f2, d⟩
theorem Inv.unpinned {pins pl : List (Addr × Obj)} {σ : St} {H : Hp} {s : Shared} (I : Inv X (pins ++ pl) σ H s) : Inv X pins σ H s := I.pins_of fun p hp => I.pin p (List.mem_append_right _ (List.mem_append_left _ hp))
theorem ps_for {iter : Expr} {body : List Stmt} {wi : TI} {g : TG} {tb : TS} {pos : Pos} (hp : PassesOwn (model X.prog X.w) X.A X.env X.xe) (hc : X.calm = true) (hi : PI X tg iter wi) (hg : PG X tg g) (hb : PSs X body tb)
    (hs : ∀ x, foldedSetIterable iter X.env x = pure x := by intro _; rfl) : PS X (.For tg iter body [] pos) (tFor wi g tb) := by
  intro pins s σ H D I h
  refine wpAny_For (thn (hi pins s σ H _ I h) fun v s1 h1 => thn h1 fun itv s2 h2 => ?_) hs
  obtain ⟨it, fp, tn, J, H2, e, I2, T, st2, f2, W, ⟨m0, w0⟩, turn⟩ := h2
  subst e
  -- what stays true of the iterator's objects through the loop
  have stat : ∀ {H' : Hp}, (∀ b ∈ fp, H' b = none) → ∀ b ∈ fp, FpOk X pins H' b := fun hn b hb => ⟨hn b hb, (f2 b hb).2⟩
  refine codeAny_forLoop_any (fun n s' => ∃ i σ' H', Inv X pins σ' H' s' ∧ tn i s'.heap ∧ (∀ b ∈ fp, H' b = none) ∧ W i n σ' H') ?_ m0 ⟨0, σ, H2, I2, st2, fun b hb => (f2 b hb).1, w0⟩
  rintro n s3 ⟨i, σ3, H3, I3, st3, fr3, w3⟩
  rcases turn i n σ3 H3 w3 with ⟨stop, qn⟩ | ⟨go, N, hN, step⟩
  · refine wpAny_passesOwn hp (thn (T.done X rfl rfl rfl hc i pins s3 σ3 H3 X.xe I3 (stat fr3) st3 stop) fun r s4 ⟨hr, I4⟩ => ?_)
    subst hr
    exact wpAny_execs_nil ⟨σ3, H3, I4, qn⟩
  · refine wpAny_passesOwn hp (thn (T.item X rfl rfl rfl hc i pins s3 σ3 H3 X.xe I3 (stat fr3) st3 go) fun r s4 ⟨u, hr, h4⟩ => ?_)
    subst hr
    refine wpAny_passesOwn hp (thn h4 fun _ s5 ⟨x, H5, I5, r5, y5, st5, fr5⟩ => ?_)
    have I5' := I5.pinned (stat fr5) (T.obj _ _ st5)
    refine wpAny_passesOwn hp (thn (hg _ s5 σ3 H5 x u _ I5' r5 (step x H5 y5)) fun _ s6 ⟨σ6, H6, I6, q6⟩ => ?_)
    refine wpAny_passesOwn hp (thn (hb _ s6 σ6 H6 _ I6 q6) fun f s7 q7 => ?_)
    have again : ∀ {σ7 : St} {H7 : Hp}, Inv X (pins ++ pinsAt fp s5.heap) σ7 H7 s7 → N σ7 H7 → ∃ m, m < n ∧ ∃ i σ' H', Inv X pins σ' H' s7 ∧ tn i s7.heap ∧ (∀ b ∈ fp, H' b = none) ∧ W i m σ' H' := fun {σ7 H7} I7 n7 => by
      obtain ⟨m', hm, w7⟩ := hN σ7 H7 n7
      refine ⟨m', hm, i + 1, σ7, H7, I7.unpinned, T.keep _ _ _ st5 fun b hb o e => (I7.pin (b, o) (List.mem_append_right _ (List.mem_append_right _ (mem_pinsAt hb e)))).1, fun b hb => ?_, w7⟩
      obtain ⟨o, e, d⟩ := T.obj _ _ st5 b hb
      exact (I7.pin (b, o) (List.mem_append_right _ (List.mem_append_right _ (mem_pinsAt hb e)))).2.1
    cases f with
    | next => obtain ⟨σ7, H7, I7, n7⟩ := q7; exact again I7 n7
    | cont => obtain ⟨σ7, H7, I7, n7⟩ := q7; exact again I7 n7
    | brk => obtain ⟨σ7, H7, I7, q7⟩ := q7; exact ⟨σ7, H7, I7.unpinned, q7⟩
    | ret v => obtain ⟨x7, σ7, H7, I7, r7, q7⟩ := q7; exact ⟨x7, σ7, H7, I7.unpinned, r7, q7⟩
end

/-! ### the forms one uses -/
/-- over a list that the body leaves as it is -/
theorem for_list {K : PySem.W.Frag} {a : Addr} {xs : List V} {g : TG} {tb : TS} {D : Ends} {σ : St} {H : Hp} (Pv : Nat → St → Hp → Prop) (h0 : Pv 0 σ H) (hl : ∀ i σ H, i ≤ xs.length → Pv i σ H → SqL K H a xs)
    (hs : ∀ i x σ H, xs[i]? = some x → Pv i σ H → g x σ H fun σ2 H2 => tb { D with nx := Pv (i + 1), ct := Pv (i + 1), bk := D.nx } σ2 H2) (hd : ∀ σ H, Pv xs.length σ H → D.nx σ H) :
    ∃ W : Nat → Nat → St → Hp → Prop, (∃ m, W 0 m σ H) ∧ ∀ i m σ H, W i m σ H →
      ((Itl K a).stop i H ∧ D.nx σ H) ∨ ((Itl K a).go i H ∧ ∃ N : St → Hp → Prop, (∀ σ' H', N σ' H' → ∃ m', m' < m ∧ W (i + 1) m' σ' H') ∧ ∀ x H', (Itl K a).yld i H x H' → g x σ H' fun σ2 H2 => tb { D with nx := N, ct := N, bk := D.nx } σ2 H2) := by
  refine ⟨fun i m σ H => m = xs.length - i ∧ i ≤ xs.length ∧ Pv i σ H, ⟨xs.length, by simp, Nat.zero_le _, h0⟩, ?_⟩
  rintro i m σ H ⟨rfl, hi, p⟩
  have q := hl i σ H hi p
  by_cases hlt : i < xs.length
  · refine .inr ⟨⟨xs, xs[i], q, by simp [hlt]⟩, Pv (i + 1), fun σ' H' p' => ⟨xs.length - (i + 1), by omega, rfl, hlt, p'⟩, fun x H' y => ?_⟩
    obtain ⟨e, y⟩ := y
    subst e
    exact hs i x σ _ (y xs q) p
  · have e : i = xs.length := by omega
    subst e
    exact .inl ⟨⟨xs, q, Nat.le_refl _⟩, hd σ H p⟩
theorem for_range {lo : Int} {n : Nat} {g : TG} {tb : TS} {D : Ends} {σ : St} {H : Hp} (Pv : Nat → St → Hp → Prop) (h0 : Pv 0 σ H)
    (hs : ∀ i σ H, i < n → Pv i σ H → g (.int (lo + i)) σ H fun σ2 H2 => tb { D with nx := Pv (i + 1), ct := Pv (i + 1), bk := D.nx } σ2 H2) (hd : ∀ σ H, Pv n σ H → D.nx σ H) :
    ∃ W : Nat → Nat → St → Hp → Prop, (∃ m, W 0 m σ H) ∧ ∀ i m σ H, W i m σ H →
      ((Itr lo n).stop i H ∧ D.nx σ H) ∨ ((Itr lo n).go i H ∧ ∃ N : St → Hp → Prop, (∀ σ' H', N σ' H' → ∃ m', m' < m ∧ W (i + 1) m' σ' H') ∧ ∀ x H', (Itr lo n).yld i H x H' → g x σ H' fun σ2 H2 => tb { D with nx := N, ct := N, bk := D.nx } σ2 H2) := by
  refine ⟨fun i m σ H => m = n - i ∧ i ≤ n ∧ Pv i σ H, ⟨n, by simp, Nat.zero_le _, h0⟩, ?_⟩
  rintro i m σ H ⟨rfl, hi, p⟩
  by_cases hlt : i < n
  · refine .inr ⟨hlt, Pv (i + 1), fun σ' H' p' => ⟨n - (i + 1), by omega, rfl, hlt, p'⟩, fun x H' y => ?_⟩
    obtain ⟨e, y⟩ := y
    subst e y
    exact hs i σ _ hlt p
  · have e : i = n := by omega
    subst e
    exact .inl ⟨Nat.le_refl _, hd σ H p⟩
end L2

namespace L2
open PySem PySem.Spec PyProof.Rows

abbrev R2 := V → V → Hp → VK → Prop
/-- a two-place operation on values: f is binaryOp op, inplaceOp op or compareOp op -/
def OpR (X : Cx) (f : Value → Value → Sem Value) (r : R2) : Prop :=
  ∀ (pins : List (Addr × Obj)) (s : Shared) (σ : St) (H : Hp) (x y : V) (v u : Value) (Q : VK), Inv X pins σ H s → RelV x v → RelV y u → r x y H Q →
    wpAny (model X.prog X.w) X.A (f v u) (EP X pins σ Q) X.xe s
/-- a one-place operation -/
def UnR (X : Cx) (f : Value → Sem Value) (r : V → Hp → VK → Prop) : Prop :=
  ∀ (pins : List (Addr × Obj)) (s : Shared) (σ : St) (H : Hp) (x : V) (v : Value) (Q : VK), Inv X pins σ H s → RelV x v → r x H Q →
    wpAny (model X.prog X.w) X.A (f v) (EP X pins σ Q) X.xe s
/-- a call of a value that is known (a builtin, a type) with values -/
def CallR (X : Cx) (f : Value) (r : List V → Hp → VK → Prop) : Prop :=
  ∀ (pins : List (Addr × Obj)) (s : Shared) (σ : St) (H : Hp) (xs : List V) (us : List Value) (Q : VK), Inv X pins σ H s → Vals xs us → r xs H Q →
    wpAny (model X.prog X.w) X.A (call f us) (EP X pins σ Q) X.xe s
def tOp (r : R2) (ta tb : TE) : TE := fun σ H Q => ta σ H fun x H1 => tb σ H1 fun y H2 => r x y H2 Q
def tUn (r : V → Hp → VK → Prop) (ta : TE) : TE := fun σ H Q => ta σ H fun x H1 => r x H1 Q
/-- ints in, under C, and a value out -/
def rI (C : Int → Int → Prop) (g : Int → Int → V) : R2 := fun x y H Q => ∃ i j, x = .int i ∧ y = .int j ∧ C i j ∧ Q (g i j) H
def rI0 (g : Int → Int → V) : R2 := fun x y H Q => ∃ i j, x = .int i ∧ y = .int j ∧ Q (g i j) H
def rU (g : Int → V) : V → Hp → VK → Prop := fun x H Q => ∃ i, x = .int i ∧ Q (g i) H

section
variable {X : Cx} {a b c : Expr} {ta tb tc : TE} {pos : Pos}

theorem binT (ha : PE X a ta) (hb : PE X b tb) {pins : List (Addr × Obj)} {s : Shared} {σ : St} {H : Hp} {R : V → V → Hp → Prop} (I : Inv X pins σ H s)
    (h : ta σ H fun x H1 => tb σ H1 fun y H2 => R x y H2) {Q : Value → Shared → Prop} {f : Value → Value → Sem Value}
    (hf : ∀ v u s2 x y H2, Inv X pins σ H2 s2 → RelV x v → RelV y u → R x y H2 → wpAny (model X.prog X.w) X.A (f v u) Q X.xe s2) :
    wpAny (model X.prog X.w) X.A (eval a X.env) (fun v s₁ => wpAny (model X.prog X.w) X.A (eval b X.env) (fun u s₂ => wpAny (model X.prog X.w) X.A (f v u) Q X.xe s₂) X.xe s₁) X.xe s := by
  refine thn (ha pins s σ H _ I h) fun v s1 ⟨x, H1, I1, r1, q1⟩ => ?_
  refine thn (hb pins s1 σ H1 _ I1 q1) fun u s2 ⟨y, H2, I2, r2, q2⟩ => ?_
  exact hf v u s2 x y H2 I2 r1 r2 q2

theorem pe_op {op : Operator} {r : R2} (ho : OpR X (binaryOp op) r) (ha : PE X a ta) (hb : PE X b tb) : PE X (.BinOp a op b pos) (tOp r ta tb) := by
  intro pins s σ H Q I h
  exact wpAny_BinOp (binT ha hb I h fun v u s2 x y H2 I2 rx ry q => ho pins s2 σ H2 x y v u Q I2 rx ry q)
theorem pe_un {op : UnaryOp} {r : V → Hp → VK → Prop} (ho : UnR X (unaryOp op) r) (ha : PE X a ta) : PE X (.UnaryOp op a pos) (tUn r ta) := by
  intro pins s σ H Q I h
  exact UnaryOp_ (thn (ha pins s σ H _ I h) fun v s1 ⟨x, H1, I1, r1, q1⟩ => ho pins s1 σ H1 x v Q I1 r1 q1)
/-! ### ints -/
theorem opI {f : Value → Value → Sem Value} {C : Int → Int → Prop} {g : Int → Int → Int}
    (rule : ∀ (i j : Int) (t u : Tok) (s : Shared) (Q : Value → Shared → Prop) (E : Value → Shared → Prop), C i j → Q (.int (g i j) s.toks) { s with toks := s.toks + 1 } → wpAny (model X.prog X.w) X.A (f (.int i t) (.int j u)) Q E s) :
    OpR X f (rI C fun i j => .int (g i j)) := by
  intro pins s σ H x y v u Q I rx ry h
  obtain ⟨i, j, rfl, rfl, hc, q⟩ := h
  obtain ⟨t, rfl⟩ := rx
  obtain ⟨t', rfl⟩ := ry
  exact rule i j t t' s _ _ hc ⟨.int (g i j), H, I.tok _, ⟨_, rfl⟩, q⟩
theorem opI0 {f : Value → Value → Sem Value} {g : Int → Int → Int}
    (rule : ∀ (i j : Int) (t u : Tok) (s : Shared) (Q : Value → Shared → Prop) (E : Value → Shared → Prop), Q (.int (g i j) s.toks) { s with toks := s.toks + 1 } → wpAny (model X.prog X.w) X.A (f (.int i t) (.int j u)) Q E s) :
    OpR X f (rI0 fun i j => .int (g i j)) := by
  intro pins s σ H x y v u Q I rx ry h
  obtain ⟨i, j, rfl, rfl, q⟩ := h
  obtain ⟨t, rfl⟩ := rx
  obtain ⟨t', rfl⟩ := ry
  exact rule i j t t' s _ _ ⟨.int (g i j), H, I.tok _, ⟨_, rfl⟩, q⟩
theorem opB0 {f : Value → Value → Sem Value} {g : Int → Int → Bool}
    (rule : ∀ (i j : Int) (t u : Tok) (s : Shared) (Q : Value → Shared → Prop) (E : Value → Shared → Prop), Q (.bool (g i j)) s → wpAny (model X.prog X.w) X.A (f (.int i t) (.int j u)) Q E s) :
    OpR X f (rI0 fun i j => .bl (g i j)) := by
  intro pins s σ H x y v u Q I rx ry h
  obtain ⟨i, j, rfl, rfl, q⟩ := h
  obtain ⟨t, rfl⟩ := rx
  obtain ⟨t', rfl⟩ := ry
  exact rule i j t t' s _ _ ⟨.bl (g i j), H, I, rfl, q⟩

def CDiv (i j : Int) : Prop := 0 < j ∧ j < 1073741824
def CPow (i j : Int) : Prop := 0 ≤ j ∧ j ≤ 1000000 ∧ i.natAbs < 2 ^ 64
def CMul (i j : Int) : Prop := (-(2 ^ 64) < i ∧ i < 2 ^ 64) ∨ (-(2 ^ 64) < j ∧ j < 2 ^ 64)
theorem CMul.ok {i j : Int} (h : CMul i j) : IntMulOk i j := by
  rcases h with ⟨h1, h2⟩ | ⟨h1, h2⟩
  · exact .of_left (intBits_le_64 h1 h2)
  · exact .of_right (intBits_le_64 h1 h2)
theorem two_pow_nn (k : Nat) : (0 : Int) ≤ 2 ^ k := by
  rw [two_pow_cast]
  exact Int.natCast_nonneg _

theorem op_add : OpR X (binaryOp .Add) (rI0 fun i j => .int (i + j)) := opI0 fun _ _ _ _ _ _ _ q => add_int q
theorem op_sub : OpR X (binaryOp .Sub) (rI0 fun i j => .int (i - j)) := opI0 fun _ _ _ _ _ _ _ q => sub_int q
theorem op_mul : OpR X (binaryOp .Mult) (rI CMul fun i j => .int (i * j)) := opI fun _ _ _ _ _ _ _ hc q => mul_int q hc.ok
/-- // by a positive divisor -/
theorem op_fdiv : OpR X (binaryOp .FloorDiv) (rI CDiv fun i j => .int (i / j)) := opI fun i j _ _ _ _ _ hc q => by
  have h1 : (0 : Int) < j := hc.1
  have h2 : j < 1073741824 := hc.2
  exact floordiv_int (by omega) (by rw [Int.fdiv_eq_ediv_of_nonneg i (by omega)]; exact q) (.inl (PyProof.noPylong_small (by omega)))
/-- % by a positive divisor of any size -/
theorem op_mod : OpR X (binaryOp .Mod) (rI (fun _ j => 0 < j) fun i j => .int (i % j)) := opI fun i j _ _ _ _ _ hc q => by
  have h1 : (0 : Int) < j := hc
  exact mod_int' (by omega) (by rw [Int.fmod_eq_emod_of_nonneg i (by omega)]; exact q)
theorem op_pow : OpR X (binaryOp .Pow) (rI CPow fun i j => .int (i ^ j.toNat)) := opI fun _ _ _ _ _ _ _ hc q => pow_int_small hc.1 hc.2.1 hc.2.2 q
theorem op_shr : OpR X (binaryOp .RShift) (rI (fun _ j => 0 ≤ j) fun i j => .int (i / 2 ^ j.toNat)) := opI fun i j _ _ _ _ _ hc q =>
  rshift_int hc (by rw [Int.fdiv_eq_ediv_of_nonneg i (two_pow_nn _)]; exact q)
theorem unI {f : Value → Sem Value} {g : Int → Int}
    (rule : ∀ (i : Int) (t : Tok) (s : Shared) (Q : Value → Shared → Prop) (E : Value → Shared → Prop), Q (.int (g i) s.toks) { s with toks := s.toks + 1 } → wpAny (model X.prog X.w) X.A (f (.int i t)) Q E s) :
    UnR X f (rU fun i => .int (g i)) := by
  intro pins s σ H x v Q I rx h
  obtain ⟨i, rfl, q⟩ := h
  obtain ⟨t, rfl⟩ := rx
  exact rule i t s _ _ ⟨.int (g i), H, I.tok _, ⟨_, rfl⟩, q⟩
theorem un_neg : UnR X (unaryOp .USub) (rU fun i => .int (-i)) := unI fun _ _ _ _ _ q => neg_int q
/-! ### bools among ints: n += (a < b) -/
end

/-! ### comparisons -/
/-- the scalars that == tells apart as data does -/
def scal : V → V → Bool
  | .non, .non => true | .non, .int _ => true | .int _, .non => true | .non, .bl _ => true | .bl _, .non => true | .non, .str _ => true | .str _, .non => true
  | .int _, .int _ => true | .bl _, .bl _ => true | .str _, .str _ => true | .byt _, .byt _ => true
  | .int _, .str _ => true | .str _, .int _ => true | .bl _, .str _ => true | .str _, .bl _ => true
  | _, _ => false
def rEq : R2 := fun x y H Q => scal x y = true ∧ Q (.bl (decide (x = y))) H
def rNe : R2 := fun x y H Q => scal x y = true ∧ Q (.bl (!decide (x = y))) H

theorem dec_int {i j : Int} : decide (V.int i = V.int j) = (i == j) := by
  rw [Bool.eq_iff_iff]
  simp
theorem dec_bl {i j : Bool} : decide (V.bl i = V.bl j) = (i == j) := by
  rw [Bool.eq_iff_iff]
  simp
theorem dec_str {i j : Str} : decide (V.str i = V.str j) = (i == j) := by
  rw [Bool.eq_iff_iff]
  simp
theorem dec_byt {i j : Array UInt8} : decide (V.byt i = V.byt j) = (i.toList == j.toList) := by
  rw [Bool.eq_iff_iff]
  cases i
  cases j
  simp

section
variable {X : Cx} {a b c : Expr} {ta tb tc : TE} {pos : Pos}
theorem fin_bl {pins : List (Addr × Obj)} {σ : St} {H : Hp} {s : Shared} {Q : VK} {k k' : Bool} (I : Inv X pins σ H s) (q : Q (.bl k) H) (e : k = k') : EP X pins σ Q (.bool k') s := by
  subst e
  exact ⟨.bl k, H, I, rfl, q⟩
theorem op_eq : OpR X (compareOp .Eq) rEq := by
  intro pins s σ H x y v u Q I rx ry h
  obtain ⟨hs, q⟩ := h
  cases x with
  | non =>
    cases rx
    cases y with
    | non => cases ry; exact PySem.EqNone.eq_none_none (fin_bl I q (by simp))
    | bl j => cases ry; exact PySem.EqNone.eq_none_bool (fin_bl I q (by simp))
    | int j => obtain ⟨t', rfl⟩ := ry; exact PySem.EqNone.eq_none_int (fin_bl I q (by simp))
    | str j => obtain ⟨t', rfl⟩ := ry; exact PySem.EqNone.eq_none_str (fin_bl I q (by simp))
    | _ => exact absurd (show false = true from hs) Bool.false_ne_true
  | bl i =>
    cases rx
    cases y with
    | non => cases ry; exact PySem.EqNone.eq_bool_none (fin_bl I q (by simp))
    | bl j => cases ry; exact eq_bool (fin_bl I q dec_bl)
    | str j => obtain ⟨t', rfl⟩ := ry; exact PySem.EqMixed.eq_bool_str (fin_bl I q (by simp))
    | _ => exact absurd (show false = true from hs) Bool.false_ne_true
  | int i =>
    obtain ⟨t, rfl⟩ := rx
    cases y with
    | non => cases ry; exact PySem.EqNone.eq_int_none (fin_bl I q (by simp))
    | int j => obtain ⟨t', rfl⟩ := ry; exact eq_int (fin_bl I q dec_int)
    | str j => obtain ⟨t', rfl⟩ := ry; exact PySem.EqMixed.eq_int_str (fin_bl I q (by simp))
    | _ => exact absurd (show false = true from hs) Bool.false_ne_true
  | str i =>
    obtain ⟨t, rfl⟩ := rx
    cases y with
    | non => cases ry; exact PySem.EqNone.eq_str_none (fin_bl I q (by simp))
    | bl j => cases ry; exact PySem.EqMixed.eq_str_bool (fin_bl I q (by simp))
    | int j => obtain ⟨t', rfl⟩ := ry; exact PySem.EqMixed.eq_str_int (fin_bl I q (by simp))
    | str j => obtain ⟨t', rfl⟩ := ry; exact eq_str (fin_bl I q dec_str)
    | _ => exact absurd (show false = true from hs) Bool.false_ne_true
  | byt i =>
    obtain ⟨t, rfl⟩ := rx
    cases y with
    | byt j => obtain ⟨t', rfl⟩ := ry; exact PySem.W.eq_bytes (fin_bl I q dec_byt)
    | _ => exact absurd (show false = true from hs) Bool.false_ne_true
  | _ => cases y <;> exact absurd (show false = true from hs) Bool.false_ne_true
theorem op_ne : OpR X (compareOp .NotEq) rNe := by
  intro pins s σ H x y v u Q I rx ry h
  obtain ⟨hs, q⟩ := h
  cases x with
  | non =>
    cases rx
    cases y with
    | non => cases ry; exact PySem.EqNone.ne_none_none (fin_bl I q (by simp))
    | bl j => cases ry; exact PySem.EqNone.ne_none_bool (fin_bl I q (by simp))
    | int j => obtain ⟨t', rfl⟩ := ry; exact PySem.EqNone.ne_none_int (fin_bl I q (by simp))
    | str j => obtain ⟨t', rfl⟩ := ry; exact PySem.EqNone.ne_none_str (fin_bl I q (by simp))
    | _ => exact absurd (show false = true from hs) Bool.false_ne_true
  | bl i =>
    cases rx
    cases y with
    | non => cases ry; exact PySem.EqNone.ne_bool_none (fin_bl I q (by simp))
    | bl j => cases ry; exact ne_bool (fin_bl I q (congrArg not dec_bl))
    | str j => obtain ⟨t', rfl⟩ := ry; exact PySem.EqMixed.ne_bool_str (fin_bl I q (by simp))
    | _ => exact absurd (show false = true from hs) Bool.false_ne_true
  | int i =>
    obtain ⟨t, rfl⟩ := rx
    cases y with
    | non => cases ry; exact PySem.EqNone.ne_int_none (fin_bl I q (by simp))
    | int j => obtain ⟨t', rfl⟩ := ry; exact ne_int (fin_bl I q (congrArg not dec_int))
    | str j => obtain ⟨t', rfl⟩ := ry; exact PySem.EqMixed.ne_int_str (fin_bl I q (by simp))
    | _ => exact absurd (show false = true from hs) Bool.false_ne_true
  | str i =>
    obtain ⟨t, rfl⟩ := rx
    cases y with
    | non => cases ry; exact PySem.EqNone.ne_str_none (fin_bl I q (by simp))
    | bl j => cases ry; exact PySem.EqMixed.ne_str_bool (fin_bl I q (by simp))
    | int j => obtain ⟨t', rfl⟩ := ry; exact PySem.EqMixed.ne_str_int (fin_bl I q (by simp))
    | str j => obtain ⟨t', rfl⟩ := ry; exact ne_str (fin_bl I q (congrArg not dec_str))
    | _ => exact absurd (show false = true from hs) Bool.false_ne_true
  | byt i =>
    obtain ⟨t, rfl⟩ := rx
    cases y with
    | byt j => obtain ⟨t', rfl⟩ := ry; exact PySem.W.ne_bytes (fin_bl I q (congrArg not dec_byt))
    | _ => exact absurd (show false = true from hs) Bool.false_ne_true
  | _ => cases y <;> exact absurd (show false = true from hs) Bool.false_ne_true

theorem op_lt : OpR X (compareOp .Lt) (rI0 fun i j => .bl (decide (i < j))) := opB0 fun _ _ _ _ _ _ _ q => lt_int q
theorem op_le : OpR X (compareOp .LtE) (rI0 fun i j => .bl (decide (i ≤ j))) := opB0 fun _ _ _ _ _ _ _ q => le_int q
theorem op_lt_str : OpR X (compareOp .Lt) (fun x y H Q => ∃ i j, x = .str i ∧ y = .str j ∧ Q (.bl (decide (i.cps.toList < j.cps.toList))) H) := by
  intro pins s σ H x y v u Q I rx ry h
  obtain ⟨i, j, rfl, rfl, q⟩ := h
  obtain ⟨t, rfl⟩ := rx
  obtain ⟨t', rfl⟩ := ry
  exact lt_str (fin_bl I q rfl)
/-- two rules for one operation: by cases -/
theorem OpR.or {f : Value → Value → Sem Value} {r r' : R2} (h : OpR X f r) (h' : OpR X f r') : OpR X f (fun x y H Q => r x y H Q ∨ r' x y H Q) := by
  intro pins s σ H x y v u Q I rx ry q
  rcases q with q | q
  · exact h pins s σ H x y v u Q I rx ry q
  · exact h' pins s σ H x y v u Q I rx ry q

theorem nomark (b : Expr) {op : CmpOp} (h : op ≠ .In := by decide) (h2 : op ≠ .NotIn := by decide) : behindInMarks op b = false := by
  have e1 : (op == CmpOp.In) = false := by cases op <;> first | rfl | exact absurd rfl h
  have e2 : (op == CmpOp.NotIn) = false := by cases op <;> first | rfl | exact absurd rfl h2
  cases b <;> simp [behindInMarks, e1, e2]
/-- a comparison as a value; hm: nomark b, or (for in, not in) by with_unfolding_all rfl -/
theorem pe_cmpR {op : CmpOp} {r : R2} (ho : OpR X (compareOp op) r) (ha : PE X a ta) (hb : PE X b tb) (hm : behindInMarks op b = false) : PE X (.Compare a [op] [b] pos) (tOp r ta tb) := by
  intro pins s σ H Q I h
  exact wpAny_Compare1 (binT ha hb I h fun v u s2 x y H2 I2 rx ry q => ho pins s2 σ H2 x y v u Q I2 rx ry q) hm
/-- a reading of a value as a test -/
def tTest (t : TE) : TT := fun σ H Q => t σ H fun x H' => ∃ k, x = .bl k ∧ Q k H'
theorem pt_cmpR {op : CmpOp} {r : R2} (ho : OpR X (compareOp op) r) (ha : PE X a ta) (hb : PE X b tb) (hm : behindInMarks op b = false) : PT X (.Compare a [op] [b] pos) (tTest (tOp r ta tb)) := by
  intro pins s σ H Q I h
  refine wpAny_isTrue_Compare1 (thn (ha pins s σ H _ I h) fun v s1 ⟨x, H1, I1, r1, q1⟩ => thn (hb pins s1 σ H1 _ I1 q1) fun u s2 ⟨y, H2, I2, r2, q2⟩ =>
    thn (ho pins s2 σ H2 x y v u _ I2 r1 r2 q2) fun c s3 ⟨z, H3, I3, r3, k, e, q3⟩ => ?_) hm
  subst e
  cases r3
  exact wpAny_truthy_bool ⟨H3, I3, q3⟩
/-- a op1 b op2 c -/
def tChain (r r' : R2) (ta tb tc : TE) : TE := fun σ H Q => ta σ H fun x H1 => tb σ H1 fun y H2 => r x y H2 fun z H3 => ∃ k, z = .bl k ∧
  (if k = true then tc σ H3 fun w' H4 => r' y w' H4 Q else Q (.bl false) H3)
theorem pe_chain {op op' : CmpOp} {r r' : R2} (ho : OpR X (compareOp op) r) (ho' : OpR X (compareOp op') r') (ha : PE X a ta) (hb : PE X b tb) (hc : PE X c tc)
    (hm : lastMarks [op, op'] [b, c] = false := by with_unfolding_all rfl) : PE X (.Compare a [op, op'] [b, c] pos) (tChain r r' ta tb tc) := by
  intro pins s σ H Q I h
  refine Compare_chain (thn (ha pins s σ H _ I h) fun v s1 ⟨x, H1, I1, r1, q1⟩ => chain_link (thn (hb pins s1 σ H1 _ I1 q1) fun u s2 ⟨y, H2, I2, r2, q2⟩ =>
    thn (ho pins s2 σ H2 x y v u _ I2 r1 r2 q2) fun d s3 ⟨z, H3, I3, r3, k, e, q3⟩ => ?_)) hm
  subst e
  cases r3
  refine wpAny_truthy_bool ?_
  cases k with
  | false => exact ite_ff ⟨.bl false, H3, I3, rfl, q3⟩
  | true => exact ite_tt (chain_last (thn (hc pins s3 σ H3 _ I3 q3) fun w' s4 ⟨z', H4, I4, r4, q4⟩ => ho' pins s4 σ H4 y z' u w' Q I4 r2 r4 q4))
theorem pt_chain {op op' : CmpOp} {r r' : R2} (ho : OpR X (compareOp op) r) (ho' : OpR X (compareOp op') r') (ha : PE X a ta) (hb : PE X b tb) (hc : PE X c tc)
    (hm : lastMarks [op, op'] [b, c] = false := by with_unfolding_all rfl) : PT X (.Compare a [op, op'] [b, c] pos) (tTest (tChain r r' ta tb tc)) := by
  intro pins s σ H Q I h
  refine isTrue_chain (thn (ha pins s σ H _ I h) fun v s1 ⟨x, H1, I1, r1, q1⟩ => test_link (thn (hb pins s1 σ H1 _ I1 q1) fun u s2 ⟨y, H2, I2, r2, q2⟩ =>
    thn (ho pins s2 σ H2 x y v u _ I2 r1 r2 q2) fun d s3 ⟨z, H3, I3, r3, k, e, q3⟩ => ?_)) hm
  subst e
  cases r3
  refine wpAny_truthy_bool ?_
  cases k with
  | false =>
    obtain ⟨k', e', q'⟩ := q3
    cases e'
    exact ite_ff ⟨H3, I3, q'⟩
  | true =>
    refine ite_tt (test_last (thn (hc pins s3 σ H3 _ I3 q3) fun w' s4 ⟨z', H4, I4, r4, q4⟩ => thn (ho' pins s4 σ H4 y z' u w' _ I4 r2 r4 q4) fun d' s5 ⟨z2, H5, I5, r5, k2, e2, q5⟩ => ?_))
    subst e2
    cases r5
    exact wpAny_truthy_bool ⟨H5, I5, q5⟩

/-! ### truth -/
theorem line63 : (sizeLine : Nat) < 2 ^ 63 := by rw [sizeLine_eq]; decide
/-! ### strs and bytes -/
theorem op_add_str : OpR X (binaryOp .Add) (fun x y H Q => ∃ i j, x = .str i ∧ y = .str j ∧ i.length + j.length ≤ sizeLine ∧ Q (.str (i ++ j)) H) := by
  intro pins s σ H x y v u Q I rx ry h
  obtain ⟨i, j, rfl, rfl, hz, q⟩ := h
  obtain ⟨t, rfl⟩ := rx
  obtain ⟨t', rfl⟩ := ry
  exact add_str (fun t' tk => ⟨.str (i ++ j), H, I.tok _, ⟨_, rfl⟩, q⟩) hz
/-! ### scalar builtins, by CallR -/
theorem vals1 {x : V} {us : List Value} (r : Vals [x] us) : ∃ u, us = [u] ∧ RelV x u := by
  cases r with
  | cons r1 r2 => cases r2; exact ⟨_, rfl, r1⟩
theorem vals2 {x y : V} {us : List Value} (r : Vals [x, y] us) : ∃ u w', us = [u, w'] ∧ RelV x u ∧ RelV y w' := by
  cases r with
  | cons r1 r2 =>
    cases r2 with
    | cons r3 r4 => cases r4; exact ⟨_, _, rfl, r1, r3⟩
theorem call_max2 (hc : X.calm = true) : CallR X (.builtin "max") (fun xs H Q => ∃ i j, xs = [.int i, .int j] ∧ Q (.int (if j > i then j else i)) H) := by
  intro pins s σ H xs us Q I r h
  obtain ⟨i, j, rfl, q⟩ := h
  obtain ⟨u, w', rfl, ⟨t, rfl⟩, ⟨t', rfl⟩⟩ := vals2 r
  refine max_two_ints (I.ok.hd hc) fun h' tk k => ⟨_, H, I.kept k, ?_, q⟩
  by_cases hj : j > i
  · rw [if_pos hj, if_pos hj]; exact ⟨_, rfl⟩
  · rw [if_neg hj, if_neg hj]; exact ⟨_, rfl⟩
theorem call_min2 (hc : X.calm = true) : CallR X (.builtin "min") (fun xs H Q => ∃ i j, xs = [.int i, .int j] ∧ Q (.int (if j < i then j else i)) H) := by
  intro pins s σ H xs us Q I r h
  obtain ⟨i, j, rfl, q⟩ := h
  obtain ⟨u, w', rfl, ⟨t, rfl⟩, ⟨t', rfl⟩⟩ := vals2 r
  refine min_two_ints (I.ok.hd hc) fun h' tk k => ⟨_, H, I.kept k, ?_, q⟩
  by_cases hj : j < i
  · rw [if_pos hj, if_pos hj]; exact ⟨_, rfl⟩
  · rw [if_neg hj, if_neg hj]; exact ⟨_, rfl⟩
theorem call_int1 : CallR X (.type "int") (fun xs H Q => (∃ i, xs = [.int i] ∧ Q (.int i) H) ∨ ∃ k, xs = [.bl k] ∧ Q (.int (if k then 1 else 0)) H) := by
  intro pins s σ H xs us Q I r h
  rcases h with ⟨i, rfl, q⟩ | ⟨k, rfl, q⟩
  · obtain ⟨u, rfl, t, rfl⟩ := vals1 r
    exact call_int_int ⟨.int i, H, I, ⟨_, rfl⟩, q⟩
  · obtain ⟨u, rfl, r1⟩ := vals1 r
    cases r1
    exact call_int_bool ⟨.int (if k then 1 else 0), H, I.tok _, ⟨_, rfl⟩, q⟩
end
end L2

namespace L2
open PySem PySem.Spec PyProof.Rows

/-! ### an instance, its attributes a map -/
structure ObjM (h : Heap) (x dx C : Addr) (mA : Str → Option Value) : Prop where
  obj : h.get? x = some (PySem.W.instObj C dx)
  ns : h.Ns1 dx mA
  ne : dx ≠ x

theorem lookIn_ns {h : Heap} {dx : Addr} {mA : Str → Option Value} (n : h.Ns1 dx mA) : ∃ od, h.get? dx = some od ∧ ∀ name, PySem.W.lookIn name od = some (mA name) := by
  obtain ⟨o, es, ep, ho, hd, hk, _, hm⟩ := n
  refine ⟨o, ho, fun name => ?_⟩
  have e := hm name
  unfold nsFind findBy at e
  rw [← Array.find?_toList] at e
  unfold PySem.W.lookIn
  rw [hd]
  dsimp only
  split
  · rename_i y q
    rw [q] at e
    exact congrArg some e
  · rename_i q
    rw [q] at e
    have a : es.toList.any (·.refKey) = false := by
      rw [List.any_eq_false]
      intro y hy
      obtain ⟨z, t, hkey⟩ := hk y (Array.mem_toList_iff.mp hy)
      simp [DictEntry.refKey, hkey]
    have a' : ¬ es.toList.any (·.refKey) = true := by rw [a]; exact Bool.false_ne_true
    rw [if_neg a']
    exact congrArg some e

theorem ObjM.look {h : Heap} {x dx C : Addr} {mA : Str → Option Value} (I : ObjM h x dx C mA) : ∃ od, PySem.W.InstAt h x (PySem.W.instObj C dx) C (some od) ∧ ∀ name, PySem.W.lookIn name od = some (mA name) :=
  let ⟨od, ho, hl⟩ := lookIn_ns I.ns
  ⟨od, ⟨I.obj, rfl, rfl, ho⟩, hl⟩

section
variable {prog : Program} {w : World} {A : Around} {E : Value → Shared → Prop} {s : Shared} {K : PySem.W.Frag} {x dx C f : Addr} {mA : Str → Option Value} {name : Str} {v : Value}

theorem get_map {expr : Bool} {Q : Value → Shared → Prop} (X : K.In s.heap) (I : ObjM s.heap x dx C mA) (hg : PySem.W.plainGet K C name = true) (hh : PySem.W.hasDictIn K C = true)
    (ha : PySem.W.findIn K (.ref C) name = some none) (hv : mA name = some v) (hv' : PySem.W.handedIn v = true) (h : Q v { s with toks := s.toks + 1 }) :
    wpAny (model prog w) A (getAttr (.ref x) name expr) Q E s := by
  obtain ⟨od, J, hl⟩ := I.look
  exact PySem.W.get_value X J (PySem.W.plainGet_of hg).1 (PySem.W.findObj_own hh ha rfl (by rw [hl, hv])) hv' h

theorem get_meth {pl : Sem Bool} {Q : Value × List Value → Shared → Prop} (X : K.In s.heap) (I : ObjM s.heap x dx C mA) (hg : PySem.W.plainGet K C name = true)
    (hf : PySem.W.findIn K (.ref C) name = some (some (.ref f))) (ht : PySem.W.isFn K (.ref f) = true) (hv : mA name = none) (h : Q (.ref f, [.ref x]) s) :
    wpAny (model prog w) A (getMethod (.ref x) name pl) Q E s := by
  obtain ⟨od, J, hl⟩ := I.look
  exact PySem.W.method_fn X J (PySem.W.plainGet_of hg).1 (PySem.W.plainGet_of hg).2 hf (beq_iff_eq.mp ht) (by show (PySem.W.lookIn name od).map (·.isSome) = some false; rw [hl, hv]; rfl) h

theorem set_map {ns : List Str} {Q : Unit → Shared → Prop} (X : K.In s.heap) (I : ObjM s.heap x dx C mA)
    (hs : PySem.W.findIn K (.ref C) "__setattr__" = some (some (.builtin "object.__setattr__"))) (hp : PySem.W.plainOver K C = true) (ht : PySem.W.takerIn K C name = some none) (hh : PySem.W.hasDictIn K C = true)
    (hw : PySem.Within mA ns) (hsz : ns.length ≤ sizeLine)
    (h : ∀ h', ObjM h' x dx C (fun y => if y = name then some v else mA y) → Heap.SameBut dx s.heap h' → Q () { s with heap := h', toks := s.toks + 2 }) :
    wpAny (model prog w) A (setAttr (.ref x) name v) Q E s := by
  obtain ⟨od, J, hl⟩ := I.look
  refine PySem.W.set_plain X J hs (PySem.W.osa_open (s := { s with toks := s.toks + 1 }) (r := none) X J hp ht fun b => ?_)
  obtain ⟨cd, hc, hd'⟩ := PySem.W.any_some hh
  have hx : s.heap.get? x = some ⟨.ref C, some dx, .plain, #[]⟩ := I.obj
  refine wpAny_bind (wpAny_pure (wpAny_bind (wpAny_bind (wpAny_loadPart hx (wpAny_bind (PySem.W.Looks.here (s := { s with toks := s.toks + 1 }) (PySem.W.looks_clsIn X hc) ?_))))))
  rw [hd']
  refine wpAny_pure (a := some dx) (wpAny_bind (wpAny_pure (wpAny_bind ?_)))
  refine wpAny_nsSet1 (s := { s with toks := s.toks + 1 }) I.ns fun h' hn2 hs2 => ?_
  obtain ⟨oD, esD, epD, hoD, hdD, hcD⟩ := hn2.count (PySem.Within.cons name v hw)
  refine wpAny_bind (wpAny_lookBehind hoD (by rw [hdD]; exact pastItsLine_dict (Nat.le_trans hcD (by rw [List.length_cons]; omega))) ?_)
  exact wpAny_pure (h _ ⟨(hs2.2 _ (Ne.symm I.ne)).trans I.obj, hn2, I.ne⟩ hs2)

/-- C(..): the dict at the heap's end, the instance behind it; then its __init__ -/
theorem make_map {R : Result → Shared → Prop} {vs : List Value} {kw : List (Str × Value)} (X : K.In s.heap) (hm : PySem.W.makesIn K C = true)
    (hi : PySem.W.findIn K (.ref C) "__init__" = some (some (.ref f))) (hf : PySem.W.typeIn K (.ref f) = some (.type "function"))
    (h : codeAny (model prog w) (A.under (.builtin "type.__call__" ⟨.ref C :: vs, kw⟩)) (.call (.ref f) ⟨.ref (s.heap.objs.size + 1) :: vs, kw⟩) (PySem.W.InitBack (s.heap.objs.size + 1) R)
      { s with heap := (s.heap.push PySem.W.emptyDict).push (PySem.W.instObj C s.heap.objs.size) }) :
    codeAny (model prog w) A (.call (.ref C) ⟨vs, kw⟩) R s := by
  obtain ⟨hh, g, d, t, os⟩ := s
  exact PySem.W.make_core (PySem.W.makes_of X hm) (PySem.W.looks_findIn X hi) (fun self => PySem.W.bind_fn X self hf) (.inl rfl) h
end

/-! ### the attributes as a list of pairs -/
def putF (f : Str) (v : V) : List (Str × V) → List (Str × V)
  | [] => [(f, v)]
  | (g, x) :: r => if g = f then (g, v) :: r else (g, x) :: putF f v r
theorem lookup_putF (f g : Str) (v : V) : ∀ fs : List (Str × V), (putF f v fs).lookup g = if g = f then some v else fs.lookup g
  | [] => by
    show List.lookup g [(f, v)] = _
    by_cases h : g = f
    · have hb : (g == f) = true := beq_iff_eq.mpr h
      simp only [List.lookup, hb, if_pos h]
    · have hb : (g == f) = false := beq_eq_false_iff_ne.mpr h
      simp only [List.lookup, hb, if_neg h]
  | (k, x) :: r => by
    have ih := lookup_putF f g v r
    rw [show putF f v ((k, x) :: r) = (if k = f then (k, v) :: r else (k, x) :: putF f v r) from rfl]
    by_cases hk : k = f
    · rw [if_pos hk]
      by_cases h : g = k
      · have hb : (g == k) = true := beq_iff_eq.mpr h
        simp only [List.lookup, hb, if_pos (h.trans hk)]
      · have hb : (g == k) = false := beq_eq_false_iff_ne.mpr h
        simp only [List.lookup, hb, if_neg (fun e : g = f => h (e.trans hk.symm))]
    · rw [if_neg hk]
      by_cases h : g = k
      · have hb : (g == k) = true := beq_iff_eq.mpr h
        simp only [List.lookup, hb, if_neg (fun e : g = f => hk (h.symm.trans e))]
      · have hb : (g == k) = false := beq_eq_false_iff_ne.mpr h
        simp only [List.lookup, hb]
        exact ih
theorem keys_putF (f : Str) (v : V) : ∀ fs : List (Str × V), f ∈ (putF f v fs).map (·.1) ∧ ∀ g, g ∈ fs.map (·.1) → g ∈ (putF f v fs).map (·.1)
  | [] => ⟨by simp [putF], fun g h => by simp at h⟩
  | (k, x) :: r => by
    obtain ⟨i1, i2⟩ := keys_putF f v r
    rw [show putF f v ((k, x) :: r) = (if k = f then (k, v) :: r else (k, x) :: putF f v r) from rfl]
    by_cases hk : k = f
    · rw [if_pos hk]
      subst hk
      exact ⟨by simp, fun g h => by simpa using h⟩
    · rw [if_neg hk]
      refine ⟨?_, fun g h => ?_⟩
      · rw [List.map_cons]
        exact List.mem_cons_of_mem _ i1
      · rw [List.map_cons] at h ⊢
        rcases List.mem_cons.mp h with e | e
        · exact List.mem_cons.mpr (.inl e)
        · exact List.mem_cons_of_mem _ (i2 g e)
theorem length_putF (f : Str) (v : V) : ∀ fs : List (Str × V), (putF f v fs).length ≤ fs.length + 1
  | [] => by simp [putF]
  | (k, x) :: r => by
    have ih := length_putF f v r
    rw [show putF f v ((k, x) :: r) = (if k = f then (k, v) :: r else (k, x) :: putF f v r) from rfl]
    by_cases hk : k = f
    · rw [if_pos hk, List.length_cons, List.length_cons]; omega
    · rw [if_neg hk, List.length_cons, List.length_cons]; omega

theorem RelO.some_of {v : V} {o : Option Value} (r : RelO (some v) o) : ∃ u, o = some u ∧ RelV v u := by
  cases o with
  | none => exact (show False from r).elim
  | some u => exact ⟨u, rfl, r⟩
theorem RelO.none_of {o : Option Value} (r : RelO none o) : o = none := by
  cases o with
  | none => rfl
  | some u => exact (show False from r).elim
theorem handed_of {v : V} {u : Value} (r : RelV v u) : PySem.W.handedIn u = true := by
  cases v with
  | non => cases (show u = Value.none from r); rfl
  | bl b => cases (show u = Value.bool b from r); rfl
  | int i => obtain ⟨t, e⟩ := (show ∃ t, u = Value.int i t from r); cases e; rfl
  | str x => obtain ⟨t, e⟩ := (show ∃ t, u = Value.str x t from r); cases e; rfl
  | byt b => obtain ⟨t, e⟩ := (show ∃ t, u = Value.bytes b t from r); cases e; rfl
  | flt b => obtain ⟨t, e⟩ := (show ∃ t, u = Value.float b t from r); cases e; rfl
  | ref a => cases (show u = Value.ref a from r); rfl
  | ty n => cases (show u = Value.type n from r); rfl

section
variable {P : Program} {w : World} {H H' : Hp} {h h' : Heap} {a C dx : Addr} {fs fs' : List (Str × V)}
theorem ins_get (hok : HOk P w H h) (e : H a = some (.ins C dx fs)) : ∃ mA, ObjM h a dx C mA ∧ (∀ f, RelO (fs.lookup f) (mA f)) ∧ PySem.Within mA (fs.map (·.1)) ∧ fs.length ≤ 1000 ∧ H dx = some (.own a) := by
  obtain ⟨d, z, ne, ob, mA, n, r, q⟩ := (show ObjOk P w H h a (.ins C dx fs) from hok a _ e)
  exact ⟨mA, ⟨ob, n, ne⟩, r, q, z, d⟩
end

/-! ### what of the text a class must have -/
structure Cls (K : PySem.W.Frag) (C : Addr) : Prop where
  pg : PySem.W.plainGet K C Str.empty = true
  hd : PySem.W.hasDictIn K C = true
  po : PySem.W.plainOver K C = true
  sa : PySem.W.findIn K (.ref C) "__setattr__" = some (some (.builtin "object.__setattr__"))
theorem Cls.get {K : PySem.W.Frag} {C : Addr} (c : Cls K C) (f : Str) : PySem.W.plainGet K C f = true := c.pg
/-- no class of it has the name -/
def NoAttr (K : PySem.W.Frag) (C : Addr) (f : Str) : Prop := PySem.W.findIn K (.ref C) f = some none
theorem NoAttr.taker {K : PySem.W.Frag} {C : Addr} {f : Str} (n : NoAttr K C f) : PySem.W.takerIn K C f = some none := by
  unfold PySem.W.takerIn
  rw [show PySem.W.findIn K (.ref C) f = some none from n]
  rfl
/-- a constant of the class -/
structure Con (K : PySem.W.Frag) (C : Addr) (f : Str) (v : V) (u : Value) : Prop where
  at_ : PySem.W.findIn K (.ref C) f = some (some u)
  rel : RelV v u
  get : PySem.W.specialIn K u "__get__" = some none
  cp : PySem.W.copiedNames.contains f = false
/-- a method: a plain def of the class or of one above it -/
structure Meth (K : PySem.W.Frag) (C : Addr) (m : Str) (f : Addr) : Prop where
  at_ : PySem.W.findIn K (.ref C) m = some (some (.ref f))
  fn : PySem.W.isFn K (.ref f) = true
  kp : PySem.W.keepIn K (.ref f) = true

section
variable {X : Cx} {pins : List (Addr × Obj)} {σ : St} {H : Hp} {s : Shared} {a C dx : Addr} {fs : List (Str × V)} {f : Str} {v : V} {A : Around} {E : Value → Shared → Prop}

theorem getattr_ok {b : Bool} {Q : Value → Shared → Prop} (I : Inv X pins σ H s) (e : H a = some (.ins C dx fs)) (c : Cls X.K C) (n : NoAttr X.K C f) (l : fs.lookup f = some v)
    (h : ∀ u s', Inv X pins σ H s' → RelV v u → Q u s') : wpAny (model X.prog X.w) A (getAttr (.ref a) f b) Q E s := by
  obtain ⟨mA, O, r, _, _, _⟩ := ins_get I.hok e
  obtain ⟨u, hu, ru⟩ := RelO.some_of (v := v) (o := mA f) (by rw [← l]; exact r f)
  exact get_map I.kIn O (c.get f) c.hd n hu (handed_of ru) (h u _ (I.tok _) ru)

theorem getmeth_ok {m : Str} {g : Addr} {pl : Sem Bool} {Q : Value × List Value → Shared → Prop} (I : Inv X pins σ H s) (e : H a = some (.ins C dx fs)) (c : Cls X.K C) (k : Meth X.K C m g) (l : fs.lookup m = none)
    (h : Q (.ref g, [.ref a]) s) : wpAny (model X.prog X.w) A (getMethod (.ref a) m pl) Q E s := by
  obtain ⟨mA, O, r, _, _, _⟩ := ins_get I.hok e
  have hn : mA m = none := RelO.none_of (by rw [← l]; exact r m)
  exact get_meth I.kIn O (c.get m) k.at_ k.fn hn h

theorem setattr_ok {y : V} {u : Value} {Q : Unit → Shared → Prop} (I : Inv X pins σ H s) (e : H a = some (.ins C dx fs)) (c : Cls X.K C) (n : NoAttr X.K C f) (hl : fs.length < 1000) (ry : RelV y u)
    (h : ∀ s', Inv X pins σ (upd H a (.ins C dx (putF f y fs))) s' → Q () s') : wpAny (model X.prog X.w) A (setAttr (.ref a) f u) Q E s := by
  obtain ⟨mA, O, r, wi, _, ho⟩ := ins_get I.hok e
  have hz : (fs.map (·.1)).length ≤ sizeLine := by rw [List.length_map, sizeLine_eq]; omega
  refine set_map I.kIn O c.sa c.po n.taker c.hd wi hz fun h' O' sb => h _ ?_
  have hd : ∃ o, h'.get? dx = some o := let ⟨o, _, _, e', _⟩ := O'.ns; ⟨o, e'⟩
  refine I.write (x := a) (e := dx) (by rw [e]; exact True.intro) (.inr ho) (fun b q hb z => (sb.2 b hb).trans z) hd ?_
  refine ⟨by rw [upd_ne O.ne]; exact ho, ?_, O.ne, O'.obj, _, O'.ns, fun g => ?_, fun g hg => ?_⟩
  · have := length_putF f y fs; omega
  · show RelO ((putF f y fs).lookup g) (if g = f then some u else mA g)
    rw [lookup_putF]
    by_cases q : g = f
    · rw [if_pos q, if_pos q]; exact ry
    · rw [if_neg q, if_neg q]; exact r g
  · by_cases q : g = f
    · rw [q]; exact (keys_putF f y fs).1
    · refine (keys_putF f y fs).2 g (wi g fun z => hg ?_)
      show (if g = f then some u else mA g) = none
      rw [if_neg q]; exact z

/-- a new instance, tracked, without attributes -/
theorem Inv.made (I : Inv X pins σ H s) : Inv X pins σ (upd (upd H s.heap.objs.size (.own (s.heap.objs.size + 1))) (s.heap.objs.size + 1) (.ins C s.heap.objs.size []))
    { s with heap := (s.heap.push PySem.W.emptyDict).push (PySem.W.instObj C s.heap.objs.size) } := by
  have e1 : (s.heap.push PySem.W.emptyDict).get? s.heap.objs.size = some PySem.W.emptyDict := Heap.get?_push_size s.heap rfl
  have e2 : ((s.heap.push PySem.W.emptyDict).push (PySem.W.instObj C s.heap.objs.size)).get? (s.heap.objs.size + 1) = some (PySem.W.instObj C s.heap.objs.size) := by
    have := Heap.get?_push_size (s.heap.push PySem.W.emptyDict) (o := PySem.W.instObj C s.heap.objs.size) rfl
    rwa [Heap.size_push] at this
  have e3 : (s.heap.push PySem.W.emptyDict).Ns s.heap.objs.size (fun _ => none) := ⟨PySem.W.emptyDict, #[], _, e1, rfl, (fun e he => absurd he (by simp)), fun _ => rfl⟩
  have I1 := I.laid (a := s.heap.objs.size) (o := .own (s.heap.objs.size + 1)) (h' := s.heap.push PySem.W.emptyDict) (t' := s.toks) (fun b u q => Heap.get?_push_of_some _ q) (Nat.le_refl _) ⟨_, e1⟩
  refine I1.laid (a := s.heap.objs.size + 1) (o := .ins C s.heap.objs.size []) (t' := s.toks) (fun b u q => Heap.get?_push_of_some _ q) (Nat.le_of_eq (Heap.size_push _ _)) ?_
  have ne : s.heap.objs.size ≠ s.heap.objs.size + 1 := Nat.ne_of_lt (Nat.lt_succ_self _)
  refine ⟨by rw [upd_ne ne, upd_same], Nat.zero_le _, ne, e2, fun _ => none, (Heap.Ns1.of_empty e3).at fun o q => Heap.get?_push_of_some _ q, fun _ => True.intro, fun y hy => absurd rfl hy⟩

/-- e.f where nothing but the object is asked: through attributeBase (super) and the last hold -/
theorem attr_of {prog : Program} {w : World} {env : Env} {e : Expr} {f : Str} {pos : Pos} {s : Shared} {Q : Value → Shared → Prop} (hb : attributeBase e f env (eval e env) = eval e env)
    (h : wpAny (model prog w) A (eval e env) (fun o s₁ => wpAny (model prog w) A (getAttr o f true) Q E s₁) E s) : wpAny (model prog w) A (eval (.Attribute e f pos) env) Q E s :=
  Attribute_any_ h (by rw [arm_eval_Attribute, hb])
end

/-! ### readings and rules -/
/-- e.f, an attribute of the instance -/
def tFld (K : PySem.W.Frag) (ta : TE) (f : Str) : TE := fun σ H Q => ta σ H fun x H1 => ∃ a C dx fs v, x = .ref a ∧ H1 a = some (.ins C dx fs) ∧ Cls K C ∧ NoAttr K C f ∧ fs.lookup f = some v ∧ Q v H1
/-- e.f = value -/
def sFld (K : PySem.W.Frag) (ta tv : TE) (f : Str) : TS := fun D σ H => tv σ H fun y H1 => ta σ H1 fun x H2 => ∃ a C dx fs, x = .ref a ∧ H2 a = some (.ins C dx fs) ∧ Cls K C ∧ NoAttr K C f ∧ fs.length < 1000 ∧
  D.nx σ (upd H2 a (.ins C dx (putF f y fs)))
section
variable {X : Cx} {o e value : Expr} {f : Str} {pos pos' tpos : Pos} {ta tv : TE}
theorem pe_fld (he : PE X e ta) (hb : attributeBase e f X.env (eval e X.env) = eval e X.env) : PE X (.Attribute e f pos) (tFld X.K ta f) := by
  intro pins s σ H Q I h
  refine attr_of hb (thn (he pins s σ H _ I h) fun u s1 ⟨x, H1, I1, rx, a, C, dx, fs, v, ex, ea, c, n, l, q⟩ => ?_)
  subst ex
  obtain rfl : u = Value.ref a := rx
  exact getattr_ok I1 ea c n l fun u' s2 I2 ru => ⟨v, H1, I2, ru, q⟩
theorem ps_fld (ha : PE X o ta) (hv : PE X value tv) (hs : swapsWith value (some (.Attribute o f pos')) pos.line X.env = pure false) : PS X (.Assign [.Attribute o f pos'] value pos) (sFld X.K ta tv f) := by
  intro pins s σ H D I h
  refine plainObj_wpAny_Assign_Attribute (thn (hv pins s σ H _ I h) fun u s1 ⟨y, H1, I1, ry, q⟩ => thn (ha pins s1 σ H1 _ I1 q) fun ov s2 ⟨x, H2, I2, rx, a, C, dx, fs, ex, ea, c, n, l, q2⟩ => ?_) hs
  subst ex
  obtain rfl : ov = Value.ref a := rx
  exact setattr_ok I2 ea c n l ry fun s3 I3 => ⟨σ, _, I3, q2⟩
end

/-! ### isinstance -/
section
variable {X : Cx} {pins : List (Addr × Obj)} {σ : St} {H : Hp} {s : Shared} {A : Around} {E : Value → Shared → Prop} {Q : Value → Shared → Prop} {c : Value} {b : Bool}
/-- the type of a value, as the fragment's deciders take it; for an instance its class -/
inductive TyOf (K : PySem.W.Frag) (H : Hp) : V → Value → Prop where
  | non : TyOf K H .non (.type "NoneType")
  | bl (x : Bool) : TyOf K H (.bl x) (.type "bool")
  | int (i : Int) : TyOf K H (.int i) (.type "int")
  | str (x : Str) : TyOf K H (.str x) (.type "str")
  | flt (x : UInt64) : TyOf K H (.flt x) (.type "float")
  | lst {a : Addr} {xs : List V} (e : H a = some (.lst xs)) : TyOf K H (.ref a) (.type "list")
  | frz {a : Addr} {o : Obj} {xs : List V} (e : H a = some (.frz o (.lst xs))) : TyOf K H (.ref a) (.type "list")
  | tup {a : Addr} {xs : List V} (e : H a = some (.tup xs)) : TyOf K H (.ref a) (.type "tuple")
  | dK {a : Addr} {kvs : List (Key × V)} (e : H a = some (.dK kvs)) : TyOf K H (.ref a) (.type "dict")
  | dT {a : Addr} {kvs : List (List Key × V)} (e : H a = some (.dT kvs)) : TyOf K H (.ref a) (.type "dict")
  | ins {a C dx : Addr} {fs : List (Str × V)} (e : H a = some (.ins C dx fs)) (cl : Cls K C) (ha : PySem.W.findIn K (.ref C) "__class__" = some (some (.builtin "object.__class__")))
      (hn : PySem.W.specialIn K (.builtin "object.__class__") "__get__" = some (some (.builtin "getset_descriptor.__get__"))) (htk : PySem.W.takesIn K (.builtin "object.__class__") = some true)
      (hm : PySem.W.mroIn K C (.type "object") = some true) : TyOf K H (.ref a) (.ref C)
/-- isinstance(x, c) for one class c, a built-in or an own one: kitOne's answer -/
theorem isinst_ok {x : V} {u t : Value} (I : Inv X pins σ H s) (rx : RelV x u) (ty : TyOf X.K H x t) (e : PySem.W.kitOne X.K t c = some b) (h : ∀ tk, Q (.bool b) { s with toks := tk }) :
    wpAny (model X.prog X.w) A (call (.builtin "isinstance") [u, c]) Q E s := by
  cases ty with
  | non => cases (show u = Value.none from rx); exact PySem.W.kia_one PySem.W.kitx_none I.kIn True.intro e (fun z => nomatch z) h
  | bl y => cases (show u = Value.bool y from rx); exact PySem.W.kia_one PySem.W.kitx_bool I.kIn True.intro e (fun z => nomatch z) h
  | int i => obtain ⟨t, q⟩ := (show ∃ t, u = Value.int i t from rx); cases q; exact PySem.W.kia_one PySem.W.kitx_int I.kIn True.intro e (fun z => nomatch z) h
  | str y => obtain ⟨t, q⟩ := (show ∃ t, u = Value.str y t from rx); cases q; exact PySem.W.kia_one PySem.W.kitx_str I.kIn True.intro e (fun z => nomatch z) h
  | flt y => obtain ⟨t, q⟩ := (show ∃ t, u = Value.float y t from rx); cases q; exact PySem.W.kia_one PySem.W.kitx_float I.kIn True.intro e (fun z => nomatch z) h
  | @lst a xs ea =>
    cases (show u = Value.ref a from rx)
    obtain ⟨_, _, n, _, h1⟩ := (show ObjOk X.prog X.w H s.heap a (.lst xs) from I.hok a _ ea)
    exact PySem.W.kia_one PySem.W.kitx_list I.kIn ⟨_, h1, rfl⟩ e (fun z => nomatch z) h
  | @frz a ob xs ea =>
    cases (show u = Value.ref a from rx)
    obtain ⟨_, _, _, n, _, h1⟩ := (show ObjOk X.prog X.w H s.heap a (.frz ob (.lst xs)) from I.hok a _ ea)
    exact PySem.W.kia_one PySem.W.kitx_list I.kIn ⟨_, h1, rfl⟩ e (fun z => nomatch z) h
  | @tup a xs ea =>
    cases (show u = Value.ref a from rx)
    obtain ⟨_, _, _, p⟩ := (show ObjOk X.prog X.w H s.heap a (.tup xs) from I.hok a _ ea)
    obtain ⟨o, h1, h2, _⟩ := p
    exact PySem.W.kia_one PySem.W.kitx_tuple I.kIn ⟨o, h1, h2⟩ e (fun z => nomatch z) h
  | @dK a kvs ea =>
    cases (show u = Value.ref a from rx)
    obtain ⟨_, _, vs, _, p⟩ := (show ObjOk X.prog X.w H s.heap a (.dK kvs) from I.hok a _ ea)
    obtain ⟨o, es, ep, h1, h2, _⟩ := p
    exact PySem.W.kia_one PySem.W.kitx_dict I.kIn ⟨o, h1, h2.1⟩ e (fun z => nomatch z) h
  | @dT a kvs ea =>
    cases (show u = Value.ref a from rx)
    obtain ⟨_, _, xs, _, o, es, ep, h1, h2, _⟩ := (show ObjOk X.prog X.w H s.heap a (.dT kvs) from I.hok a _ ea)
    exact PySem.W.kia_one PySem.W.kitx_dict I.kIn ⟨o, h1, h2.1⟩ e (fun z => nomatch z) h
  | @ins a C dx fs ea cl ha hn htk hm =>
    cases (show u = Value.ref a from rx)
    obtain ⟨mA, O, _⟩ := ins_get I.hok ea
    obtain ⟨od, J, _⟩ := O.look
    exact PySem.W.kia_one (PySem.W.kitx_own (cl.get _) cl.hd ha hn htk hm) I.kIn J e (fun z => nomatch z) h
end
end L2

namespace L2
open PySem PySem.Spec PyProof.Rows

/-! ### room -/
structure Room (k : Nat) (A : Around) : Prop where
  hd : A.handled = none
  dp : A.depth + 3 * k + 5 < recursionLimit
  un : A.units + 16 * k + 200 < cLine
theorem Room.mono {j k : Nat} {A : Around} (r : Room k A) (h : j ≤ k) : Room j A := ⟨r.hd, by have := r.dp; omega, by have := r.un; omega⟩
theorem Room.deeper {k : Nat} {A : Around} (r : Room (k + 1) A) (env : Env) : Room k (A.deeper env) :=
  ⟨r.hd, by have := r.dp; show A.depth + 1 + 3 * k + 5 < _; omega, by have := r.un; show A.units + 3 + 16 * k + 200 < _; omega⟩
theorem Room.in1 {k : Nat} {A : Around} (r : Room (k + 1) A) : Room k A.in1 :=
  ⟨r.hd, by have := r.dp; show A.depth + 3 * k + 5 < _; omega, by have := r.un; show A.units + 1 + 16 * k + 200 < _; omega⟩
theorem make_depth {A : Around} {C : Addr} {us : List Value} {kw : List (Str × Value)} : (A.under (.builtin "type.__call__" ⟨.ref C :: us, kw⟩)).depth = A.depth + 1 := by
  first | rfl | simp [Around.under, Code.weight, Code.isCreation, Code.isGuard, Code.isCaller, Code.frames, Code.isFrame, guardIds]
theorem make_units {A : Around} {C : Addr} {us : List Value} {kw : List (Str × Value)} : (A.under (.builtin "type.__call__" ⟨.ref C :: us, kw⟩)).units = A.units + 1 := by
  first | rfl | simp [Around.under, Code.cUnits, Code.frames, Code.isFrame]
theorem Room.make {k : Nat} {A : Around} (r : Room (k + 1) A) (C : Addr) (us : List Value) (kw : List (Str × Value)) : Room k (A.under (.builtin "type.__call__" ⟨.ref C :: us, kw⟩)) :=
  ⟨r.hd, by have := r.dp; rw [make_depth]; omega, by have := r.un; rw [make_units]; omega⟩
theorem Room.depth {k : Nat} {A : Around} (r : Room k A) : A.depth < recursionLimit := by have := r.dp; omega
theorem Room.units {k : Nat} {A : Around} (r : Room k A) : A.units + 64 < cLine := by have := r.un; omega
/-! ### argument lists and displays -/
def tNil : TA := fun _ H Q => Q [] H
def tCons (ta : TE) (tr : TA) : TA := fun σ H Q => ta σ H fun x H1 => tr σ H1 fun xs H2 => Q (x :: xs) H2
section
variable {X : Cx} {e : Expr} {es : List Expr} {te : TE} {t : TA} {pos : Pos}
theorem pa_nil : PA X [] tNil := fun _ _ _ _ H Q I h => Calls.spliced_nil ⟨[], H, I, .nil, h⟩
theorem pa_cons (ha : PE X e te) (hr : PA X es t) (hs : starEach (e :: es) X.env = (false, eval e X.env) :: starEach es X.env := by rfl) : PA X (e :: es) (tCons te t) := by
  intro pos pins s σ H Q I h
  rw [hs]
  show wpAny _ _ (spliced ((false, eval e X.env) :: backTo pos (starEach es X.env))) _ _ s
  refine Calls.spliced_cons (thn (ha pins s σ H _ I h) fun u s1 ⟨x, H1, I1, r1, q1⟩ => ?_)
  exact thn (hr pos pins s1 σ H1 _ I1 q1) fun us s2 ⟨xs, H2, I2, r2, q2⟩ => ⟨x :: xs, H2, I2, .cons r1 r2, q2⟩

/-- a tuple, a list of written items -/
def tTup (t : TA) : TE := fun σ H Q => t σ H fun xs H1 => xs.length ≤ sizeLine ∧ ∀ p, H1 p = none → Q (.ref p) (upd H1 p (.tup xs))
def tLst (t : TA) : TE := fun σ H Q => t σ H fun xs H1 => xs.length ≤ sizeLine ∧ ∀ p, H1 p = none → Q (.ref p) (upd H1 p (.lst xs))
theorem pe_tup {x1} (h : PA X es t) : PE X (.Tuple es x1 pos) (tTup t) := by
  intro pins s σ H Q I hq
  refine wpAny_Tuple_spliced (thn (h pos pins s σ H _ I hq) fun us s1 ⟨xs, H1, I1, r, z, q⟩ => ⟨by rw [← r.length]; exact z, ?_⟩)
  have hf : H1 s1.heap.objs.size = none := I1.hok.fresh (Nat.le_refl _)
  refine ⟨.ref s1.heap.objs.size, upd H1 s1.heap.objs.size (.tup xs), I1.laid (t' := s1.toks) (fun b u e => Heap.get?_push_of_some _ e) (Nat.le_refl _) ?_, rfl, q _ hf⟩
  exact ⟨z, us, r, ⟨_, Heap.get?_push_size _ rfl, rfl, _, rfl⟩⟩
theorem pe_lst (h : PA X es t) : PE X (.List es pos) (tLst t) := by
  intro pins s σ H Q I hq
  refine wpAny_List_spliced (thn (h pos pins s σ H _ I hq) fun us s1 ⟨xs, H1, I1, r, z, q⟩ => ⟨by rw [← r.length]; exact z, ?_⟩)
  have hf : H1 s1.heap.objs.size = none := I1.hok.fresh (Nat.le_refl _)
  refine ⟨.ref s1.heap.objs.size, upd H1 s1.heap.objs.size (.lst xs), I1.laid (t' := s1.toks) (fun b u e => Heap.get?_push_of_some _ e) (Nat.le_refl _) ?_, rfl, q _ hf⟩
  exact ⟨z, us, 0, r, Heap.get?_push_size _ rfl⟩
end

/-! ### what a def promises -/
/-- a def's promise: the bound arguments in the parameters' order, the heap, the wanted end, the wanted exception -/
abbrev Sp := List V → Hp → VK → XK → Prop
/-- how an exception lies behind a call (file 08 gives it): the callers' frames, abstract heap and state ahead of the call, the wish, the exception, the state -/
abbrev CXT := List Env → Hp → Shared → XK → Value → Shared → Prop

/-- the state at a call -/
structure Env0 (P : Program) (w : World) (K : PySem.W.Frag) (mg : Str → Option Value) (base : Heap) (A : Around) (outer : List Env) (s : Shared) (H : Hp) : Prop where
  frames : A.frames = some outer
  mod : Mod K mg base
  bs : ∀ b o, base.get? b = some o → s.heap.get? b = some o ∧ H b = none
  bsz : base.objs.size ≤ s.heap.objs.size
  funs : s.heap.FunFrames base outer
  frf : ∀ b ∈ frs outer, H b = none
  hok : HOk P w H s.heap
  bare : AllBare s.gens
/-- a call's end -/
def CE (outer : List Env) (P : Program) (w : World) (H : Hp) (s : Shared) (Q : VK) (u : Value) (s' : Shared) : Prop :=
  ∃ v H', s'.os = s.os ∧ AllBare s'.gens ∧ Un (frs outer) [] H H' s.heap s'.heap ∧ HOk P w H' s'.heap ∧ RelV v u ∧ Q v H'
def CR (CX : CXT) (outer : List Env) (P : Program) (w : World) (H : Hp) (s : Shared) (Q : VK) (E : XK) (r : Result) (s' : Shared) : Prop :=
  match r with
  | .ok (.ret u) => CE outer P w H s Q u s'
  | .ok _ => False
  | .error e => CX outer H s E e s'
structure FnOk (P : Program) (w : World) (K : PySem.W.Frag) (mg : Str → Option Value) (base : Heap) (CX : CXT) (k : Nat) (f : Addr) (fd : FuncData) (ps : List Str) (sp : Sp) : Prop where
  len : ∀ vs H Q E, sp vs H Q E → vs.length = ps.length
  run : ∀ (A : Around) (outer : List Env) (s : Shared) (H : Hp) (args : Args) (us : List Value) (vs : List V) (Q : VK) (E : XK), Room k A → Env0 P w K mg base A outer s H → BindsTo s fd args (ps.zip us) → Vals vs us → sp vs H Q E →
    codeAny (model P w) A (.call (.ref f) args) (CR CX outer P w H s Q E) s
theorem FnOk.mono {P : Program} {w : World} {K : PySem.W.Frag} {mg : Str → Option Value} {base : Heap} {CX : CXT} {j k : Nat} {f : Addr} {fd : FuncData} {ps : List Str} {sp : Sp} (F : FnOk P w K mg base CX j f fd ps sp) (h : j ≤ k) :
    FnOk P w K mg base CX k f fd ps sp := ⟨F.len, fun A outer s H args us vs Q E hr => F.run A outer s H args us vs Q E (hr.mono h)⟩
/-- a weaker promise -/
theorem FnOk.imp {P : Program} {w : World} {K : PySem.W.Frag} {mg : Str → Option Value} {base : Heap} {CX : CXT} {k : Nat} {f : Addr} {fd : FuncData} {ps : List Str} {sp sp' : Sp} (F : FnOk P w K mg base CX k f fd ps sp)
    (h : ∀ vs H Q E, sp' vs H Q E → sp vs H Q E) : FnOk P w K mg base CX k f fd ps sp' :=
  ⟨fun vs H Q E q => F.len vs H Q E (h _ _ _ _ q), fun A outer s H args us vs Q E hr he hb hv hs => F.run A outer s H args us vs Q E hr he hb hv (h _ _ _ _ hs)⟩

theorem Env0.make {P : Program} {w : World} {K : PySem.W.Frag} {mg : Str → Option Value} {base : Heap} {A : Around} {outer : List Env} {s : Shared} {H : Hp} (e : Env0 P w K mg base A outer s H) (C : Addr) (us : List Value) (kw : List (Str × Value)) :
    Env0 P w K mg base (A.under (.builtin "type.__call__" ⟨.ref C :: us, kw⟩)) outer s H := ⟨by first | exact e.frames | (simpa [Around.under, Code.envs, Code.isFrame, pushEnvs] using e.frames), e.mod, e.bs, e.bsz, e.funs, e.frf, e.hok, e.bare⟩
theorem Env0.in1 {P : Program} {w : World} {K : PySem.W.Frag} {mg : Str → Option Value} {base : Heap} {A : Around} {outer : List Env} {s : Shared} {H : Hp} (e : Env0 P w K mg base A outer s H) :
    Env0 P w K mg base A.in1 outer s H := ⟨e.frames, e.mod, e.bs, e.bsz, e.funs, e.frf, e.hok, e.bare⟩

section
variable {X : Cx} {pins : List (Addr × Obj)} {σ : St} {H : Hp} {s s' : Shared}
/-- from a body: what a callee wants -/
theorem Inv.env0 (I : Inv X pins σ H s) : Env0 X.prog X.w X.K X.mg X.base X.A X.stack s H :=
  ⟨I.ok.frames, I.ok.mod, I.bs, Nat.le_trans I.ok.bsz I.sz, I.stack, I.stkFree, I.hok, I.bare⟩
/-- behind a call -/
theorem Inv.after {Q : VK} {u : Value} (I : Inv X pins σ H s) (h : CE X.stack X.prog X.w H s Q u s') : EP X pins σ Q u s' := by
  obtain ⟨v, H', os, bare, un, hok, r, q⟩ := h
  obtain ⟨hh, g, d, t, os'⟩ := s'
  obtain rfl : os' = s.os := os
  exact ⟨v, H', I.call (h' := hh) (g' := g) (d' := d) (t' := t) (ch := []) un hok bare (fun b z => absurd z (by simp)), r, q⟩
end

/-! ### calls -/
/-- f(..): the written arguments, then the defaults dvs; E: what is wanted of an exception -/
def tCall (sp : Sp) (dvs : List V) (E : XK) (t : TA) : TE := fun σ H Q => t σ H fun vs H1 => sp (vs ++ dvs) H1 Q E
/-- o.m(..) of an instance of the class at C -/
def tMeth (C : Addr) (m : Str) (sp : Sp) (dvs : List V) (E : XK) (ta : TE) (t : TA) : TE := fun σ H Q => ta σ H fun x H1 => ∃ a dx fs, x = .ref a ∧ H1 a = some (.ins C dx fs) ∧ fs.lookup m = none ∧
  t σ H1 fun vs H2 => sp (x :: (vs ++ dvs)) H2 Q E
/-- C(..): a new instance and its dict, then __init__ -/
def tMake (C : Addr) (sp : Sp) (dvs : List V) (E : XK) (t : TA) : TE := fun σ H Q => t σ H fun vs H1 => ∀ x dx, H1 x = none → H1 dx = none → dx ≠ x →
  sp (.ref x :: (vs ++ dvs)) (upd (upd H1 dx (.own x)) x (.ins C dx [])) (fun v H2 => v = .non ∧ Q (.ref x) H2) E

/-- how the parameters are bound: us the positional arguments, kw the keywords' values by name, ds the defaults that fill up -/
def Binds (K : PySem.W.Frag) (fd : FuncData) (ps : List Str) (ds : List Value) : Prop :=
  ∀ (s : Shared) (us : List Value), K.In s.heap → (us ++ ds).length = ps.length → BindsTo s fd ⟨us, []⟩ (ps.zip (us ++ ds))
/-- every parameter is given -/
theorem Binds.all {K : PySem.W.Frag} {fd : FuncData} {ps : List Str} (h : ∀ us : List Value, us.length = ps.length → bindArgs fd ⟨us, []⟩ = pure (ps.zip us)) : Binds K fd ps [] := fun s us _ hl => by
  rw [List.append_nil] at hl ⊢
  exact .of_eq (h us hl)

/-- an exception of a callee reaches what this body wants of exceptions -/
def Passes (CX : CXT) (X : Cx) (E : XK) : Prop := ∀ (pins : List (Addr × Obj)) (σ : St) (H : Hp) (s : Shared) (e : Value) (s' : Shared), Inv X pins σ H s → CX X.stack H s E e s' → X.xe e s'

section
variable {X : Cx} {CX : CXT} {k : Nat} {f C : Addr} {fd : FuncData} {ps : List Str} {sp : Sp} {dvs : List V} {ds : List Value} {E : XK} {x m : Str} {p pos apos : Pos} {e o : Expr} {es : List Expr} {ta : TE} {t : TA}

/-- the callee runs -/
theorem run_fn {pins : List (Addr × Obj)} {σ : St} {H : Hp} {s : Shared} {Q : VK} {us : List Value} {vs : List V} (F : FnOk X.prog X.w X.K X.mg X.base CX k f fd ps sp) (hr : Room k X.A) (hb : Binds X.K fd ps ds) (hd : Vals dvs ds) (hx : Passes CX X E)
    (I : Inv X pins σ H s) (r : Vals vs us) (h : sp (vs ++ dvs) H Q E) : wpAny (model X.prog X.w) X.A (call (.ref f) us) (EP X pins σ Q) X.xe s := by
  have r2 : Vals (vs ++ dvs) (us ++ ds) := r.append hd
  have hl : (us ++ ds).length = ps.length := by rw [← r2.length]; exact F.len _ _ _ _ h
  refine wpAny_call (codeAny_mono (F.run X.A X.stack s H ⟨us, []⟩ (us ++ ds) (vs ++ dvs) Q E hr I.env0 (hb s us I.kIn hl) r2 h) fun r s' hq => ?_)
  cases r with
  | error e => exact hx pins σ H s e s' I hq
  | ok fl =>
    cases fl with
    | ret u => exact I.after hq
    | next => exact False.elim hq
    | brk => exact False.elim hq
    | cont => exact False.elim hq

theorem pe_call (F : FnOk X.prog X.w X.K X.mg X.base CX k f fd ps sp) (hr : Room k X.A) (hg : Gl X x) (hm : X.mg x = some (.ref f)) (hk : PySem.W.keepIn X.K (.ref f) = true) (hb : Binds X.K fd ps ds) (hd : Vals dvs ds) (hx : Passes CX X E)
    (ha : PA X (e :: es) t) (hdb : (x == ("__debug__" : Str)) = false := by decide) (he : starEach (e :: es) X.env = (false, eval e X.env) :: starEach es X.env := by rfl) (hpl : (backTo pos (starEach es X.env)).any (·.1) = false := by rfl) :
    PE X (.Call (.Name x p) (e :: es) [] pos) (tCall sp dvs E t) := by
  intro pins s σ H Q I h
  refine wpAny_Call_Name_kw (ld_glob I hg hm ?_ hdb)
  refine PySem.W.callWith_K (h₀ := X.base) I.ok.mod.kin hk (thn (ha pos pins s σ H _ I h) fun us s1 ⟨vs, H1, I1, r, q⟩ => ⟨I1.kIn, ?_⟩) he hpl
  exact run_fn F hr hb hd hx I1 r q
/-- o.m(e, ..) -/
theorem pe_meth {pl : Sem Bool} (he : PE X o ta) (c : Cls X.K C) (hm : Meth X.K C m f) (F : FnOk X.prog X.w X.K X.mg X.base CX k f fd ps sp) (hr : Room k X.A) (hb : Binds X.K fd ps ds) (hd : Vals dvs ds) (hx : Passes CX X E) (ha : PA X (e :: es) t)
    (hst : starEach (e :: es) X.env = (false, eval e X.env) :: starEach es X.env := by rfl) (hpl : (backTo pos (starEach es X.env)).any (·.1) = false := by rfl)
    (ht : eval (.Call (.Attribute o m apos) (e :: es) [] pos) X.env = (do
      let ov ← eval o X.env
      standAt apos.atName
      let (f, first) ← holding [ov] (getMethod ov m pl)
      callWith pos f first (backTo pos (starEach (e :: es) X.env)) (backToKw pos (keywordEach [] X.env))) := by rfl) :
    PE X (.Call (.Attribute o m apos) (e :: es) [] pos) (tMeth C m sp dvs E ta t) := by
  intro pins s σ H Q I h
  refine PySem.W.methodCall_KW (pl := pl) (thn (he pins s σ H _ I h) fun u s1 ⟨x, H1, I1, rx, a, dx, fs, ex, ea, l, q⟩ => ?_) ht
  subst ex
  obtain rfl : u = Value.ref a := rx
  refine getmeth_ok I1 ea c hm l ?_
  refine PySem.W.callWith_K (first := [.ref a]) (h₀ := X.base) I.ok.mod.kin hm.kp (thn (ha pos pins s1 σ H1 _ I1 q) fun us s2 ⟨vs, H2, I2, r, q2⟩ => ⟨I2.kIn, ?_⟩) hst hpl
  exact run_fn (us := .ref a :: us) (vs := .ref a :: vs) F hr hb hd hx I2 (.cons rfl r) q2
/-- o.m() -/
theorem pe_meth0 {pl : Sem Bool} (he : PE X o ta) (c : Cls X.K C) (hm : Meth X.K C m f) (F : FnOk X.prog X.w X.K X.mg X.base CX k f fd ps sp) (hr : Room k X.A) (hb : Binds X.K fd ps ds) (hd : Vals dvs ds) (hx : Passes CX X E)
    (ht : eval (.Call (.Attribute o m apos) [] [] pos) X.env = (do
      let ov ← eval o X.env
      standAt apos.atName
      let (f, first) ← holding [ov] (getMethod ov m pl)
      callWith pos f first (backTo pos (starEach [] X.env)) (backToKw pos (keywordEach [] X.env))) := by rfl) :
    PE X (.Call (.Attribute o m apos) [] [] pos) (tMeth C m sp dvs E ta tNil) := by
  intro pins s σ H Q I h
  refine PySem.W.methodCall_KW (pl := pl) (thn (he pins s σ H _ I h) fun u s1 ⟨x, H1, I1, rx, a, dx, fs, ex, ea, l, q⟩ => ?_) ht
  subst ex
  obtain rfl : u = Value.ref a := rx
  refine getmeth_ok I1 ea c hm l ?_
  exact PySem.W.callWith_K0 (first := [.ref a]) I1.kIn hm.kp (run_fn (us := [.ref a]) (vs := [.ref a]) F hr hb hd hx I1 (.cons rfl .nil) q)

/-- what a class must have to be made -/
structure Mk (K : PySem.W.Frag) (C f : Addr) : Prop where
  makes : PySem.W.makesIn K C = true
  init : PySem.W.findIn K (.ref C) "__init__" = some (some (.ref f))
  fn : PySem.W.isFn K (.ref f) = true
  kp : PySem.W.keepIn K (.ref C) = true

theorem run_make {pins : List (Addr × Obj)} {σ : St} {H : Hp} {s : Shared} {Q : VK} {us : List Value} {vs : List V} (M : Mk X.K C f) (F : FnOk X.prog X.w X.K X.mg X.base CX k f fd ps sp) (hr : Room (k + 1) X.A) (hb : Binds X.K fd ps ds) (hd : Vals dvs ds)
    (hx : Passes CX X E) (I : Inv X pins σ H s) (r : Vals vs us)
    (h : ∀ x dx, H x = none → H dx = none → dx ≠ x → sp (.ref x :: (vs ++ dvs)) (upd (upd H dx (.own x)) x (.ins C dx [])) (fun v H2 => v = .non ∧ Q (.ref x) H2) E) :
    wpAny (model X.prog X.w) X.A (call (.ref C) us) (EP X pins σ Q) X.xe s := by
  have hq := h (s.heap.objs.size + 1) s.heap.objs.size (I.hok.fresh (Nat.le_succ _)) (I.hok.fresh (Nat.le_refl _)) (Nat.ne_of_lt (Nat.lt_succ_self _))
  have I2 := Inv.made (C := C) I
  have r2 : Vals (V.ref (s.heap.objs.size + 1) :: (vs ++ dvs)) (Value.ref (s.heap.objs.size + 1) :: (us ++ ds)) := .cons rfl (r.append hd)
  have hl : (Value.ref (s.heap.objs.size + 1) :: us ++ ds).length = ps.length := by
    have e := r2.length
    rw [F.len _ _ _ _ hq] at e
    exact e.symm
  refine wpAny_call (make_map (f := f) I.kIn M.makes M.init (beq_iff_eq.mp M.fn) (codeAny_mono (F.run _ X.stack _ _ ⟨Value.ref (s.heap.objs.size + 1) :: us, []⟩ (Value.ref (s.heap.objs.size + 1) :: (us ++ ds)) _ _ E (hr.make C us [])
    (I2.env0.make C us []) (hb _ (Value.ref (s.heap.objs.size + 1) :: us) I2.kIn hl) r2 hq) fun r s' hq' => ?_))
  cases r with
  | error e => exact hx pins σ _ _ e s' I2 hq'
  | ok fl =>
    cases fl with
    | ret u =>
      obtain ⟨v, H', I3, rv, ev, q3⟩ := I2.after hq'
      subst ev
      exact ⟨rv, ⟨V.ref (s.heap.objs.size + 1), H', I3, rfl, q3⟩⟩
    | next => exact False.elim hq'
    | brk => exact False.elim hq'
    | cont => exact False.elim hq'
theorem pe_make (M : Mk X.K C f) (F : FnOk X.prog X.w X.K X.mg X.base CX k f fd ps sp) (hr : Room (k + 1) X.A) (hg : Gl X x) (hm : X.mg x = some (.ref C)) (hb : Binds X.K fd ps ds) (hd : Vals dvs ds) (hx : Passes CX X E)
    (ha : PA X (e :: es) t) (hdb : (x == ("__debug__" : Str)) = false := by decide) (he : starEach (e :: es) X.env = (false, eval e X.env) :: starEach es X.env := by rfl) (hpl : (backTo pos (starEach es X.env)).any (·.1) = false := by rfl) :
    PE X (.Call (.Name x p) (e :: es) [] pos) (tMake C sp dvs E t) := by
  intro pins s σ H Q I h
  refine wpAny_Call_Name_kw (ld_glob I hg hm ?_ hdb)
  refine PySem.W.callWith_K (h₀ := X.base) I.ok.mod.kin M.kp (thn (ha pos pins s σ H _ I h) fun us s1 ⟨vs, H1, I1, r, q⟩ => ⟨I1.kIn, ?_⟩) he hpl
  exact run_make M F hr hb hd hx I1 r q
end

/-! ### keywords -/
section
variable {X : Cx} {CX : CXT} {k : Nat} {f C : Addr} {fd : FuncData} {ps ks : List Str} {sp : Sp} {E : XK} {x m : Str} {p pos apos kpos : Pos} {e o : Expr} {es : List Expr} {kws : List Keyword} {te ta : TE} {t tk : TA} {nm : Option Str}
/-- how a call with keywords binds: g puts the positional values us and the keywords' values ws (names ks) in the parameters' order, defaults among them -/
structure KBinds (K : PySem.W.Frag) (fd : FuncData) (ps ks : List Str) (g : List Value → List Value → List Value) (gV : List V → List V → List V) : Prop where
  to : ∀ (s : Shared) (us ws : List Value), K.In s.heap → (g us ws).length = ps.length → BindsTo s fd ⟨us, ks.zip ws⟩ (ps.zip (g us ws))
  rel : ∀ {vs : List V} {us : List Value} {zs : List V} {ws : List Value}, Vals vs us → Vals zs ws → Vals (gV vs zs) (g us ws)
variable {g : List Value → List Value → List Value} {gV : List V → List V → List V}
end

/-! ### a def's body keeps its promise -/
/-- names: the parameters first -/
structure FnScope (N P : List Str) (sc : Scope) : Prop where
  kind : sc.kind = .function
  co : sc.isCoroutine = false
  gen : sc.isGenerator = false
  nd : N.Nodup
  pre : N.take P.length = P
  par : ∀ x ∈ P, sc.names.lookup x = some .local ∨ sc.names.lookup x = some .cell
  nofree : ∀ y ∈ sc.names, y.2 ≠ .free

theorem bindL_out {kindOf : Str → Option NameKind} {x : Str} : ∀ {binds : List (Str × Value)} {m : Str → Option Value}, (∀ v, (x, v) ∉ binds) → bindL kindOf binds m x = m x
  | [], _, _ => rfl
  | (n, v) :: r, m, h => by
    unfold bindL
    rw [bindL_out fun w hw => h w (List.mem_cons_of_mem _ hw)]
    split
    · have : x ≠ n := by rintro rfl; exact h v List.mem_cons_self
      simp [this]
    · rfl
theorem bindC_out {kindOf : Str → Option NameKind} {x : Str} : ∀ {binds : List (Str × Value)} {m : Str → Option Value}, (∀ v, (x, v) ∉ binds) → bindC kindOf binds m x = m x
  | [], _, _ => rfl
  | (n, v) :: r, m, h => by
    unfold bindC
    rw [bindC_out fun w hw => h w (List.mem_cons_of_mem _ hw)]
    split
    · rfl
    · have : x ≠ n := by rintro rfl; exact h v List.mem_cons_self
      simp [this]
theorem bindL_get {kindOf : Str → Option NameKind} {x : Str} {v : Value} : ∀ {P : List Str} {vs : List Value} {i : Nat} {m : Str → Option Value}, P.Nodup → P[i]? = some x → vs[i]? = some v → kindOf x = some .local →
    bindL kindOf (P.zip vs) m x = some v
  | [], _, _, _, _, h, _, _ => by simp at h
  | _ :: _, [], _, _, _, _, h, _ => by simp at h
  | p :: P, w :: vs, 0, m, nd, h1, h2, hk => by
    simp at h1 h2; subst h1; subst h2
    show bindL kindOf ((p, w) :: P.zip vs) m p = _
    unfold bindL
    rw [bindL_out fun v hv => (List.nodup_cons.mp nd).1 (List.of_mem_zip hv).1, if_pos hk]
    simp
  | p :: P, w :: vs, i + 1, m, nd, h1, h2, hk => by
    show bindL kindOf ((p, w) :: P.zip vs) m x = _
    unfold bindL
    exact bindL_get (i := i) (List.nodup_cons.mp nd).2 (by simpa using h1) (by simpa using h2) hk
theorem bindC_get {kindOf : Str → Option NameKind} {x : Str} {v : Value} : ∀ {P : List Str} {vs : List Value} {i : Nat} {m : Str → Option Value}, P.Nodup → P[i]? = some x → vs[i]? = some v → kindOf x ≠ some .local →
    bindC kindOf (P.zip vs) m x = some v
  | [], _, _, _, _, h, _, _ => by simp at h
  | _ :: _, [], _, _, _, _, h, _ => by simp at h
  | p :: P, w :: vs, 0, m, nd, h1, h2, hk => by
    simp at h1 h2; subst h1; subst h2
    show bindC kindOf ((p, w) :: P.zip vs) m p = _
    unfold bindC
    rw [bindC_out fun v hv => (List.nodup_cons.mp nd).1 (List.of_mem_zip hv).1, if_neg hk]
    simp
  | p :: P, w :: vs, i + 1, m, nd, h1, h2, hk => by
    show bindC kindOf ((p, w) :: P.zip vs) m x = _
    unfold bindC
    exact bindC_get (i := i) (List.nodup_cons.mp nd).2 (by simpa using h1) (by simpa using h2) hk

/-- the names' values at the entry -/
def start (N : List Str) (vs : List V) : St := vs.map some ++ List.replicate (N.length - vs.length) none

/-- the context of a def's body, at its entry; an exception leaves the frame, then lies as CX says -/
def cxOf (CX : CXT) (P : Program) (w : World) (K : PySem.W.Frag) (mg : Str → Option Value) (base : Heap) (N : List Str) (qual : Str) (scope : Scope) (f : Addr) (cd : Value) (A : Around) (outer : List Env) (s : Shared) (H : Hp) (E : XK) : Cx where
  prog := P
  w := w
  K := K
  mg := mg
  base := base
  A := A.deeper (envOfC qual scope s.heap.objs.size f cd)
  N := N
  s_0 := s
  H_0 := H
  env := envOfC qual scope s.heap.objs.size f cd
  outer := outer
  stack := envOfC qual scope s.heap.objs.size f cd :: outer
  ex := []
  calm := true
  fn := fun _ => true
  pn := []
  xe := fun e s' => wpAny (model P w) (A.deeper (envOfC qual scope s.heap.objs.size f cd)) (leaving (envOfC qual scope s.heap.objs.size f cd) e) (fun _ s'' => CX outer H s E e s'') (fun e' s'' => CX outer H s E e' s'') s'

theorem cell_has {sc : Scope} {n : Nat} {x : Str} (h : sc.names.lookup x = some .cell) : ∃ c, (cellsFrom n sc.names []).lookup x = some c := by
  have q := PySem.W.cellsFrom_some sc.names n [] (.inl h)
  exact Option.isSome_iff_exists.mp q

theorem inv_start {CX : CXT} {P : Program} {w : World} {K : PySem.W.Frag} {mg : Str → Option Value} {base : Heap} {N ps : List Str} {qual : Str} {scope : Scope} {f : Addr} {cd : Value} {A : Around} {outer : List Env} {s s1 : Shared} {H : Hp} {E : XK} {us : List Value} {vs : List V}
    (S : FnScope N ps scope) (hd : A.handled = none) (e0 : Env0 P w K mg base A outer s H) (hl : vs.length = ps.length) (r : Vals vs us)
    (x : InCallC s s.heap.objs.size (bindL (envOfC qual scope s.heap.objs.size f cd).kindOf (ps.zip us) fun _ => none) (cellsFrom (s.heap.objs.size + 1) scope.names []) (bindC (envOfC qual scope s.heap.objs.size f cd).kindOf (ps.zip us) fun _ => none) s1) :
    Inv (cxOf CX P w K mg base N qual scope f cd A outer s H E) [] (start N vs) H s1 := by
  have hpl : ps.length ≤ N.length := by have := congrArg List.length S.pre; rw [List.length_take] at this; omega
  obtain ⟨h1, tk, rfl, hk⟩ := x.done
  have noA : ∀ b : Addr, b ∉ (cxOf CX P w K mg base N qual scope f cd A outer s H E).ex := fun b z => absurd (show b ∈ ([] : List Addr) from z) (by simp)
  refine ⟨⟨e0.mod, S.kind, rfl, rfl, Nat.le_refl _, fun y z c h1 h2 => ?_, fun y hy => ?_, fun y c _ h => ?_, fun _ => hd, Around.frames_deeper e0.frames, .inr ⟨rfl, rfl⟩, fun b z => absurd z (noA b), e0.bs, e0.bsz, fun b _ _ => noA b, fun b z => absurd z (noA b), e0.funs, e0.frf⟩,
    rfl, e0.bare, Un.kept hk, ⟨_, x.toInCall.ns, fun i y v h1 h2 h3 => ?_⟩, fun y c h => ⟨_, x.cell y c h⟩, e0.hok.fresh (Nat.le_refl _), fun y c h => ?_, fun p hp => absurd (show p ∈ ([] : List (Addr × Obj)) from hp) (by simp), e0.hok.kept hk, ?_⟩
  · exact name_of_addr x.apart (PySem.mem_of_lookup h1) (PySem.mem_of_lookup h2)
  · have hy : scope.names.lookup y = some .cell ∨ scope.names.lookup y = some .free := hy
    rcases hy with hy | hy
    · exact cell_has hy
    · exact absurd rfl (S.nofree _ (PySem.mem_of_lookup hy))
  · exact Nat.le_of_lt (x.above y c (PySem.mem_of_lookup h))
  · have hi : i < vs.length := by
      unfold start at h2
      by_cases hi : i < vs.length
      · exact hi
      · rw [List.getElem?_append_right (by simpa using hi)] at h2
        rw [List.getElem?_replicate] at h2
        split at h2 <;> cases h2
    have ha : vs[i]? = some v := by
      unfold start at h2
      rw [List.getElem?_append_left (by simpa using hi), List.getElem?_map] at h2
      cases e : vs[i]? with
      | none => rw [e] at h2; cases h2
      | some a => rw [e] at h2; cases h2; rfl
    obtain ⟨u, hu, rv⟩ := r.get ha
    have hp : ps[i]? = some y := by
      rw [← S.pre, List.getElem?_take_of_lt (by omega)]; exact h1
    have ndP : ps.Nodup := by rw [← S.pre]; exact S.nd.sublist (List.take_sublist _ _)
    refine ⟨u, rv, ?_⟩
    rcases S.par y (List.mem_of_getElem? hp) with k | k
    · exact .inl ⟨k, bindL_get ndP hp hu k⟩
    · obtain ⟨c, e⟩ := cell_has (n := s.heap.objs.size + 1) k
      refine .inr ⟨.inl k, c, e, ?_⟩
      have q := x.cell y c e
      rw [bindC_get ndP hp hu (by show scope.names.lookup y ≠ _; rw [k]; decide)] at q
      exact q
  · exact e0.hok.fresh (Nat.le_of_lt (x.above y c (PySem.mem_of_lookup h)))
  · unfold start
    show _ = N.length
    rw [List.length_append, List.length_map, List.length_replicate]
    omega

/-- THE RULE: a def (or a method) of the text, by its body. The body's reading t is chosen for each entry; it is run at the parameters' values -/
theorem fn_of {CX : CXT} {P : Program} {w : World} {K : PySem.W.Frag} {mg : Str → Option Value} {base : Heap} {k : Nat} {f : Addr} {name qual : Str} {params : Arguments} {body : List Stmt} {scope : Scope} {dV kV doc pm cdv ct oc : Value} {an od : Option Addr}
    {osl : Array (Option Value)} {N ps : List Str} {sp : Sp} (lk : K.lookup f = some ⟨oc, od, .func (PySem.W.fnOf name qual params body scope dV kV doc pm an cdv ct), osl⟩) (hcd : PySem.W.codeIn K cdv qual = true) (S : FnScope N ps scope)
    (len : ∀ vs H Q E, sp vs H Q E → vs.length = ps.length)
    (hbody : ∀ (A : Around) (outer : List Env) (s : Shared) (H : Hp) (vs : List V) (Q : VK) (E : XK), Room k (A.deeper (envOfC qual scope s.heap.objs.size f cdv)) → sp vs H Q E →
      ∃ t, PSs (cxOf CX P w K mg base N qual scope f cdv A outer s H E) body t ∧ t { nx := fun _ H' => Q .non H', rt := Q } (start N vs) H) :
    FnOk P w K mg base CX (k + 1) f (PySem.W.fnOf name qual params body scope dV kV doc pm an cdv ct) ps sp := by
  refine ⟨len, fun A outer s H args us vs Q E hr e0 hb r hsp => ?_⟩
  have hl := len _ _ _ _ hsp
  have KX : K.In s.heap := e0.mod.kin.keeps fun b o e => (e0.bs b o e).1
  have lim : s.heap.NoLimit := e0.mod.nolimit.keeps fun b o e => (e0.bs b o e).1
  have hkind : ∀ y ∈ ps.zip us, scope.names.lookup y.1 = some .local ∨ (scope.names.lookup y.1 = some .cell ∧ ((cellsFrom (s.heap.objs.size + 1) scope.names []).lookup y.1).isSome = true) := fun ⟨n, v⟩ hy => by
    rcases S.par n (List.of_mem_zip hy).1 with q | q
    · exact .inl q
    · exact .inr ⟨q, PySem.W.cellsFrom_some _ _ _ (.inl q)⟩
  refine codeAny_call_function hr.depth (KX _ _ lk) rfl S.co S.gen rfl (PySem.W.codeRec_of KX hcd) (hb _ _ _ _ ?_)
  refine wpAny_newFunctionEnv_cells S.kind hkind fun env he s1 x => ?_
  subst he
  refine ⟨lim.keeps x.toInCall.keep, codeAny_func ?_⟩
  obtain ⟨t, ht, hq⟩ := hbody A outer s H vs Q E (hr.deeper _) hsp
  have I : Inv (cxOf CX P w K mg base N qual scope f cdv A outer s H E) [] (start N vs) H s1 := inv_start S hr.hd e0 hl r x
  refine wpAny_mono (ht [] s1 (start N vs) H _ I hq) (fun fl s' hs => ?_) fun e s' hs => hs
  have fin : ∀ {σ' : St} {H' : Hp} {v : V} {u : Value}, Inv (cxOf CX P w K mg base N qual scope f cdv A outer s H E) [] σ' H' s' → RelV v u → Q v H' → CE outer P w H s Q u s' :=
    fun {σ' H' v u} J rv q => ⟨v, H', J.os, J.bare, J.base, J.hok, rv, q⟩
  cases fl with
  | ret u =>
    obtain ⟨v, σ', H', J, rv, q⟩ := hs
    exact fin J rv q
  | next =>
    obtain ⟨σ', H', J, q⟩ := hs
    exact fin (v := V.non) (u := Value.none) J rfl q
  | brk =>
    obtain ⟨_, _, _, q⟩ := hs
    exact False.elim q
  | cont =>
    obtain ⟨_, _, _, q⟩ := hs
    exact False.elim q
end L2

namespace L2
open PySem PySem.Spec PyProof.Rows
section
variable {X : Cx} {x : Str} {p pos : Pos} {e : Expr} {es : List Expr} {t : TA} {id T : String} {r : List V → Hp → VK → Prop}

def tCB (r : List V → Hp → VK → Prop) (t : TA) : TE := fun σ H Q => t σ H fun vs H1 => r vs H1 Q
/-- f(e, ..), f a built-in function -/
theorem pe_callB (hc : CallR X (.builtin id) r) (hg : Gl X x) (hm : X.mg x = none) (hv : bootBuiltins x = some (.builtin id)) (ha : PA X (e :: es) t) (hn : x ≠ "__name__" := by decide) (hdb : (x == ("__debug__" : Str)) = false := by decide)
    (he : starEach (e :: es) X.env = (false, eval e X.env) :: starEach es X.env := by rfl) (hpl : (backTo pos (starEach es X.env)).any (·.1) = false := by rfl) : PE X (.Call (.Name x p) (e :: es) [] pos) (tCB r t) := by
  intro pins s σ H Q I h
  refine wpAny_Call_Name_kw (ld_blt I hg hm hv ?_ hn hdb)
  exact PyProof.Rows.callWith_builtin1 (thn (ha pos pins s σ H _ I h) fun us s1 ⟨vs, H1, I1, r1, q1⟩ => hc pins s1 σ H1 vs us Q I1 r1 q1) he hpl
/-- T(e, ..), T a built-in type -/
theorem pe_callTy (hc : CallR X (.type T) r) (hg : Gl X x) (hm : X.mg x = none) (hv : bootBuiltins x = some (.type T)) (ha : PA X (e :: es) t) (hn : x ≠ "__name__" := by decide) (hdb : (x == ("__debug__" : Str)) = false := by decide)
    (he : starEach (e :: es) X.env = (false, eval e X.env) :: starEach es X.env := by rfl) (hpl : (backTo pos (starEach es X.env)).any (·.1) = false := by rfl) : PE X (.Call (.Name x p) (e :: es) [] pos) (tCB r t) := by
  intro pins s σ H Q I h
  refine wpAny_Call_Name_kw (ld_blt I hg hm hv ?_ hn hdb)
  exact PyProof.Rows.callWith_type1 (thn (ha pos pins s σ H _ I h) fun us s1 ⟨vs, H1, I1, r1, q1⟩ => hc pins s1 σ H1 vs us Q I1 r1 q1) he hpl
end
end L2

namespace HT
open PySem PyProof.Rows

section
open PySem.SeqAt
open PySem.AutoSeq1 (wpAny_loadPart')
open PySem.MeetsSeq PySem.MeetsSeq2 PySem.MeetsSeq3

end

section
variable {prog : Program} {w : World} {A : Around} {E : Value → Shared → Prop} {s : Shared}

/-! ### t[a:b], not the whole -/
/-- a slice's bound as a place among n (d where it is left out) -/
def sIx (n d : Nat) : Option Int → Nat
  | none => d
  | some v => if v < 0 then (v + (n : Int)).toNat else min v.toNat n
theorem sIx_none (n d : Nat) : sIx n d none = d := rfl
theorem sIx_nat (n d k : Nat) : sIx n d (some (k : Int)) = min k n := by
  show (if (k : Int) < 0 then ((k : Int) + (n : Int)).toNat else min (k : Int).toNat n) = min k n
  rw [if_neg (by omega), Int.toNat_natCast]
theorem sIx_le (n d : Nat) (hd : d ≤ n) (o : Option Int) : sIx n d o ≤ n := by
  cases o with
  | none => exact hd
  | some v =>
    show (if v < 0 then (v + (n : Int)).toNat else min v.toNat n) ≤ n
    by_cases hv : v < 0
    · rw [if_pos hv]; omega
    · rw [if_neg hv]; exact Nat.min_le_right _ _
end
end HT

namespace L2
open PySem PySem.Spec PyProof.Rows

/-! ### the parts of a slice -/
abbrev TO := St → Hp → (Option Int → Hp → Prop) → Prop
/-- a slice's part (left out, or an int) -/
def PO (X : Cx) (e : Option Expr) (t : TO) : Prop :=
  ∀ (pins : List (Addr × Obj)) (s : Shared) (σ : St) (H : Hp) (Q : Option Int → Hp → Prop), Inv X pins σ H s → t σ H Q →
    wpAny (model X.prog X.w) X.A (evalPart e X.env) (fun u s' => ∃ o H', Inv X pins σ H' s' ∧ IsPart u o ∧ Q o H') X.xe s
def tNoPart : TO := fun _ H Q => Q none H
def tPart (t : TE) : TO := fun σ H Q => t σ H fun x H1 => ∃ i, x = .int i ∧ Q (some i) H1

section
variable {X : Cx} {e : Expr} {te : TE} {lo hi : Option Expr} {tl th : TO} {pos p2 : Pos}

theorem po_none : PO X none tNoPart := by
  intro pins s σ H Q I h
  rw [evalPart_none]
  exact wpAny_pure ⟨none, H, I, .none, h⟩
theorem po_some (h : PE X e te) : PO X (some e) (tPart te) := by
  intro pins s σ H Q I hw
  rw [evalPart_some]
  refine thn (h pins s σ H _ I hw) fun u s1 ⟨x, H1, I1, r1, q1⟩ => ?_
  obtain ⟨i, rfl, q⟩ := q1
  obtain ⟨t, rfl⟩ := r1
  exact ⟨some i, H1, I1, .int i t, q⟩

/-- what a slice of a value is, by values: the slice object stands at sl -/
def SlR (X : Cx) (r : V → Option Int → Option Int → Hp → VK → Prop) : Prop :=
  ∀ (pins : List (Addr × Obj)) (s : Shared) (σ : St) (H : Hp) (x : V) (v vl vu : Value) (lo hi : Option Int) (sl : Addr) (Q : VK), Inv X pins σ H s → RelV x v → s.heap.IsSliceOf sl vl vu .none → IsPart vl lo → IsPart vu hi → r x lo hi H Q →
    ∃ T id, typeLookup (.type T) "__getitem__" = pure (some (.builtin id)) ∧ s.TypeIs v T ∧ wpAny (model X.prog X.w) X.A (getItem v (.ref sl)) (EP X pins σ Q) X.xe s
theorem SlR.or {r r' : V → Option Int → Option Int → Hp → VK → Prop} (h : SlR X r) (h' : SlR X r') : SlR X (fun x lo hi H Q => r x lo hi H Q ∨ r' x lo hi H Q) := by
  intro pins s σ H x v vl vu lo hi sl Q I rx hs pl pu q
  rcases q with q | q
  · exact h pins s σ H x v vl vu lo hi sl Q I rx hs pl pu q
  · exact h' pins s σ H x v vl vu lo hi sl Q I rx hs pl pu q
def tSl (r : V → Option Int → Option Int → Hp → VK → Prop) (te : TE) (tl th : TO) : TE := fun σ H Q => te σ H fun x H1 => tl σ H1 fun l H2 => th σ H2 fun u H3 => r x l u H3 Q
/-- a[lo:hi], any a -/
theorem pe_slice {r : V → Option Int → Option Int → Hp → VK → Prop} (hr : SlR X r) (he : PE X e te) (hl : PO X lo tl) (hu : PO X hi th) : PE X (.Subscript e (.Slice lo hi none p2) pos) (tSl r te tl th) := by
  intro pins s σ H Q I h
  refine Subscript_ (thn (he pins s σ H _ I h) fun v s1 ⟨x, H1, I1, r1, q1⟩ => ?_)
  refine wpAny_Slice (thn (hl pins s1 σ H1 _ I1 q1) fun vl s2 ⟨l, H2, I2, pl, q2⟩ => thn (hu pins s2 σ H2 _ I2 q2) fun vu s3 ⟨u, H3, I3, pu, q3⟩ => ?_)
  rw [evalPart_none]
  refine wpAny_pure ?_
  have I4 : Inv X pins σ H3 { s3 with heap := s3.heap.push { cls := .type "slice", data := .fields #[vl, vu, .none] } } := I3.kept (t' := s3.toks) fun b ob q => Heap.get?_push_of_some _ q
  obtain ⟨T, id, hT, ht, hg⟩ := hr pins { s3 with heap := s3.heap.push { cls := .type "slice", data := .fields #[vl, vu, .none] } } σ H3 x v vl vu l u s3.heap.objs.size Q I4 r1 (Heap.IsSliceOf.new ..) pl pu q3
  show wpAny (model X.prog X.w) X.A (subscriptTail e (.Slice lo hi none p2) v (.ref s3.heap.objs.size)) (EP X pins σ Q) X.xe { s3 with heap := s3.heap.push { cls := .type "slice", data := .fields #[vl, vu, .none] } }
  exact tail_any (ops := [.ref s3.heap.objs.size, v]) ht hT hg (by with_unfolding_all rfl)

/-- the items of xs[lo:hi] -/
def cutV (xs : List V) (lo hi : Option Int) : List V := (xs.drop (HT.sIx xs.length 0 lo)).take (HT.sIx xs.length xs.length hi - HT.sIx xs.length 0 lo)
theorem cutV_length (xs : List V) (lo hi : Option Int) : (cutV xs lo hi).length ≤ xs.length := by
  unfold cutV
  rw [List.length_take, List.length_drop]
  omega
/-! ### t < u, t + u -/
end
end L2

namespace L2
open PySem PySem.Spec PyProof.Rows

/-! ### places -/
/-- the place that an index of any sign means -/
def ixN (n : Nat) (i : Int) : Option Nat := if 0 ≤ i then (if i < n then some i.toNat else none) else if -(n : Int) ≤ i then some (i + n).toNat else none
def atI {α : Type} (xs : List α) (i : Int) : Option α := (ixN xs.length i).bind fun j => xs[j]?
theorem ixN_seq {n : Nat} {i : Int} {j : Nat} (h : ixN n i = some j) : seqIndex? i n = some j ∧ j < n ∧ -(n : Int) ≤ i ∧ i < n := by
  unfold ixN at h
  by_cases h0 : 0 ≤ i
  · rw [if_pos h0] at h
    by_cases h1 : i < n
    · rw [if_pos h1] at h
      have e : i.toNat = j := Option.some.inj h
      exact ⟨by rw [seqIndex_of h0 h1, e], by omega, by omega, h1⟩
    · rw [if_neg h1] at h; cases h
  · rw [if_neg h0] at h
    by_cases h1 : -(n : Int) ≤ i
    · rw [if_pos h1] at h
      have e : (i + n).toNat = j := Option.some.inj h
      exact ⟨by rw [seqIndex_neg (by omega) h1, e], by omega, h1, by omega⟩
    · rw [if_neg h1] at h; cases h
theorem atI_get {α : Type} {xs : List α} {i : Int} {v : α} (h : atI xs i = some v) : ∃ j, seqIndex? i xs.length = some j ∧ xs[j]? = some v ∧ j < xs.length ∧ -(xs.length : Int) ≤ i ∧ i < xs.length := by
  unfold atI at h
  cases e : ixN xs.length i with
  | none => rw [e] at h; cases h
  | some j =>
    rw [e] at h
    obtain ⟨h1, h2, h3, h4⟩ := ixN_seq e
    exact ⟨j, h1, h, h2, h3, h4⟩
theorem atI_nat {α : Type} {xs : List α} {j : Nat} {v : α} (h : xs[j]? = some v) : atI xs (j : Int) = some v := by
  have hj : j < xs.length := (List.getElem?_eq_some_iff.mp h).1
  have e : ixN xs.length (j : Int) = some j := by
    unfold ixN
    rw [if_pos (by omega), if_pos (by omega)]; simp
  unfold atI; rw [e]; exact h
theorem atI_last {α : Type} (xs : List α) (v : α) : atI (xs ++ [v]) (-1) = some v := by
  have hl : (xs ++ [v]).length = xs.length + 1 := by simp
  have e : ixN (xs ++ [v]).length (-1) = some xs.length := by
    unfold ixN
    rw [hl, if_neg (by decide), if_pos (by omega)]
    congr 1
    omega
  unfold atI
  rw [e]
  show (xs ++ [v])[xs.length]? = some v
  simp

/-! ### what may be subscripted -/
/-- what stands as an index of a plain subscript -/
def PlainIx (b : Expr) : Prop := ∀ o i, subscripted b false o i = operate [o, i] (getItem o i)
/-- a subscript by values -/
def IxR (X : Cx) (r : R2) : Prop :=
  ∀ (value slice : Expr) (pins : List (Addr × Obj)) (s : Shared) (σ : St) (H : Hp) (x y : V) (v u : Value) (Q : VK), Inv X pins σ H s → RelV x v → RelV y u → r x y H Q →
    subscripted slice false v u = operate [v, u] (getItem v u) → wpAny (model X.prog X.w) X.A (subscriptTail value slice v u) (EP X pins σ Q) X.xe s
/-- a call of a builtin's method by values: the receiver, the arguments -/
def MtR (X : Cx) (id : String) (r : V → List V → Hp → VK → Prop) : Prop :=
  ∀ (pins : List (Addr × Obj)) (s : Shared) (σ : St) (H : Hp) (x : V) (xs : List V) (v : Value) (us : List Value) (Q : VK), Inv X pins σ H s → RelV x v → Vals xs us → r x xs H Q →
    wpAny (model X.prog X.w) X.A (call (.builtin id) (v :: us)) (EP X pins σ Q) X.xe s
section
variable {X : Cx} {a b : Expr} {ta tb : TE} {pos : Pos}
theorem IxR.or {r r' : R2} (h : IxR X r) (h' : IxR X r') : IxR X (fun x y H Q => r x y H Q ∨ r' x y H Q) := by
  intro value slice pins s σ H x y v u Q I rx ry q hs
  rcases q with q | q
  · exact h value slice pins s σ H x y v u Q I rx ry q hs
  · exact h' value slice pins s σ H x y v u Q I rx ry q hs
theorem MtR.or {id : String} {r r' : V → List V → Hp → VK → Prop} (h : MtR X id r) (h' : MtR X id r') : MtR X id (fun x xs H Q => r x xs H Q ∨ r' x xs H Q) := by
  intro pins s σ H x xs v us Q I rx rs q
  rcases q with q | q
  · exact h pins s σ H x xs v us Q I rx rs q
  · exact h' pins s σ H x xs v us Q I rx rs q
/-- a[b] -/
theorem pe_ix {r : R2} (hr : IxR X r) (ha : PE X a ta) (hb : PE X b tb) (hs : PlainIx b) : PE X (.Subscript a b pos) (tOp r ta tb) := by
  intro pins s σ H Q I h
  exact Subscript_ (binT ha hb I h fun v u s2 x y H2 I2 rx ry q => hr a b pins s2 σ H2 x y v u Q I2 rx ry q (hs _ _))

def rIxL (K : PySem.W.Frag) : R2 := fun x y H Q => ∃ p xs i v, x = .ref p ∧ y = .int i ∧ SqL K H p xs ∧ atI xs i = some v ∧ Q v H
def rIxT (K : PySem.W.Frag) : R2 := fun x y H Q => ∃ p xs i v, x = .ref p ∧ y = .int i ∧ SqT K H p xs ∧ atI xs i = some v ∧ Q v H
def rIxS : R2 := fun x y H Q => ∃ z i c, x = .str z ∧ y = .int i ∧ z.length ≤ sizeLine ∧ atI z.cps.toList i = some c ∧ Q (.str ⟨#[c]⟩) H
theorem ix_list : IxR X (rIxL X.K) := by
  intro value slice pins s σ H x y v u Q I rx ry h hs
  obtain ⟨p, xs, i, z, rfl, rfl, hq, he, q⟩ := h
  cases rx
  obtain ⟨t, rfl⟩ := ry
  obtain ⟨its, r, pl, hz⟩ := I.list hq
  obtain ⟨j, h1, h2, h3, h4, h5⟩ := atI_get he
  obtain ⟨w, ew, rw'⟩ := r.get h2
  have hl := r.length
  have hn := line63
  have fin : EP X pins σ Q w s := ⟨z, H, I, rw', q⟩
  by_cases h0 : 0 ≤ i
  · have hj : i.toNat = j := by
      rw [seqIndex_of h0 h5] at h1
      exact Option.some.inj h1
    exact item_listR pl.isList h0 (by omega) (by rw [hj]; simpa using ew) fin hs
  · have hj : (i + (its.toArray.size : Int)).toNat = j := by
      rw [seqIndex_neg (by omega) h4] at h1
      rw [List.size_toArray, ← hl]
      exact Option.some.inj h1
    exact subscriptTail_builtinR (x := w) pl.isList.typeIs slot_list_getitem.lookup
      (wpAny_getItem_list_neg (Q := fun r s' => r = w ∧ EP X pins σ Q r s') pl.isList (by omega) (by rw [List.size_toArray] <;> omega) (by omega) (by rw [hj]; simpa using ew) ⟨rfl, fin⟩) hs
theorem ix_tup : IxR X (rIxT X.K) := by
  intro value slice pins s σ H x y v u Q I rx ry h hs
  obtain ⟨p, xs, i, z, rfl, rfl, hq, he, q⟩ := h
  cases rx
  obtain ⟨t, rfl⟩ := ry
  obtain ⟨its, r, pl, hz⟩ := I.tuple hq
  obtain ⟨j, h1, h2, h3, h4, h5⟩ := atI_get he
  obtain ⟨w, ew, rw'⟩ := r.get h2
  have hl := r.length
  have hn := line63
  have fin : EP X pins σ Q w s := ⟨z, H, I, rw', q⟩
  exact subscriptTail_builtinR (x := w) pl.typeIs slot_tuple_getitem.lookup
    (getItem_tuple (j := j) (Q := fun r s' => r = w ∧ EP X pins σ Q r s') pl (by omega) (by omega) (by rw [List.size_toArray, ← hl]; exact h1) (by simpa using ew) ⟨rfl, fin⟩) hs
theorem ix_str : IxR X rIxS := by
  intro value slice pins s σ H x y v u Q I rx ry h hs
  obtain ⟨z, i, c, rfl, rfl, hz, he, q⟩ := h
  obtain ⟨t, rfl⟩ := rx
  obtain ⟨t', rfl⟩ := ry
  obtain ⟨j, h1, h2, h3, h4, h5⟩ := atI_get he
  have hl : z.cps.toList.length = z.length := by simp [Str.length]
  rw [hl] at h1 h4 h5
  have hn := line63
  exact tail_any (typeIs_str s z t) slot_str_getitem.lookup (getItem_str (c := c) (by
    have e1 : decide (i < -(2 ^ 63 : Int)) = false := decide_eq_false (by omega)
    have e2 : decide (i ≥ 2 ^ 63) = false := decide_eq_false (by omega)
    rw [e1, e2, Bool.or_false]) (by rw [h1]; simpa using h2) ⟨.str ⟨#[c]⟩, H, I.tok _, ⟨_, rfl⟩, q⟩) hs
/-! ### xs[i] = v, any sign -/
/-- the list's object behind a store -/
theorem mapSeq_set (its : List Value) (n j : Nat) (u : Value) : Obj.mapSeq (·.setIfInBounds j u) { cls := .type "list", data := .seq its.toArray n } = { cls := .type "list", data := .seq (its.set j u).toArray n } := by
  simp [Obj.mapSeq]
theorem Inv.lst {pins : List (Addr × Obj)} {σ : St} {H : Hp} {s : Shared} {p : Addr} {xs : List V} (I : Inv X pins σ H s) (h : H p = some (.lst xs)) :
    ∃ (its : List Value) (n : Nat), Vals xs its ∧ s.heap.get? p = some { cls := .type "list", data := .seq its.toArray n } ∧ xs.length ≤ sizeLine := by
  obtain ⟨z, its, n, r, e⟩ := I.hok p _ h
  exact ⟨its, n, r, e, z⟩
/-- the list at p is written by an update of its object -/
theorem Inv.lstUpd {pins : List (Addr × Obj)} {σ : St} {H : Hp} {s : Shared} {p : Addr} {xs ys : List V} {its its' : List Value} {n n' : Nat} {f : Obj → Obj} (I : Inv X pins σ H s) (h : H p = some (.lst xs))
    (ho : s.heap.get? p = some { cls := .type "list", data := .seq its.toArray n }) (hf : f { cls := .type "list", data := .seq its.toArray n } = { cls := .type "list", data := .seq its'.toArray n' }) (r : Vals ys its') (hz : ys.length ≤ sizeLine) (t : Nat) :
    Inv X pins σ (upd H p (.lst ys)) { s with heap := s.heap.update p f, toks := t } := by
  have e : (s.heap.update p f).get? p = some { cls := .type "list", data := .seq its'.toArray n' } := by
    rw [Heap.get?_update_self f ho (by rw [hf] <;> rfl), hf]
  refine I.write (x := p) (e := p) (by rw [h]; trivial) (.inl rfl) (fun b u hb q => (Heap.get?_update_other _ _ (Ne.symm hb)).trans q) ⟨_, e⟩ ?_
  exact ⟨hz, its', n', r, e⟩
def rSetL : V → V → V → Hp → (Hp → Prop) → Prop := fun o i v H Q => ∃ p xs k j, o = .ref p ∧ i = .int k ∧ H p = some (.lst xs) ∧ ixN xs.length k = some j ∧ Q (upd H p (.lst (xs.set j v)))
theorem set_list : PSet X rSetL := by
  intro pins s σ H o i v ov iv u Q I ro ri rv h
  obtain ⟨p, xs, k, j, rfl, rfl, hp, hj, q⟩ := h
  cases ro
  obtain ⟨t, rfl⟩ := ri
  obtain ⟨its, n, r, ho, hz⟩ := I.lst hp
  obtain ⟨h1, h2, h3, h4⟩ := ixN_seq hj
  have hl := r.length
  have hn := line63
  have I' : Inv X pins σ (upd H p (.lst (xs.set j v))) { s with heap := s.heap.update p (Obj.mapSeq (·.setIfInBounds j u)) } :=
    I.lstUpd hp ho (mapSeq_set its n j u) (r.set rv j) (by rw [List.length_set]; exact hz) s.toks
  by_cases h0 : 0 ≤ k
  · have hk : k.toNat = j := by
      rw [seqIndex_of h0 h4] at h1
      exact Option.some.inj h1
    exact PySem.W.ki_setAt ho h0 (by omega) (by rw [List.size_toArray, ← hl]; exact h4) (by rw [hk]; exact ⟨_, I', q⟩)
  · have hk : (k + (its.toArray.size : Int)).toNat = j := by
      rw [seqIndex_neg (by omega) h3] at h1
      rw [List.size_toArray, ← hl]
      exact Option.some.inj h1
    exact PySem.W.ki_setBack ho (by omega) (by rw [List.size_toArray, ← hl]; exact h3) (by omega) (by rw [hk]; exact ⟨_, I', q⟩)

/-! ### slices -/
theorem slice_bounds (lo hi : Option Int) (n : Nat) : (sliceBounds lo hi none n).1 = ((HT.sIx n 0 lo : Nat) : Int) ∧ (sliceBounds lo hi none n).2.1 = ((HT.sIx n n hi : Nat) : Int) ∧ (sliceBounds lo hi none n).2.2 = 1 := by
  refine ⟨?_, ?_, rfl⟩
  · cases lo with
    | none => simp [sliceBounds, HT.sIx]
    | some i =>
      simp only [sliceBounds, HT.sIx, Option.getD_none, show (1 : Int) > 0 by decide, if_true]
      by_cases h : i < 0
      · simp only [h, if_true] <;> omega
      · simp only [h, if_false] <;> omega
  · cases hi with
    | none => simp [sliceBounds, HT.sIx]
    | some i =>
      simp only [sliceBounds, HT.sIx, Option.getD_none, show (1 : Int) > 0 by decide, if_true]
      by_cases h : i < 0
      · simp only [h, if_true] <;> omega
      · simp only [h, if_false] <;> omega
theorem slicePick_cut (its : List Value) (lo hi : Option Int) : slicePick its.toArray lo hi none = ((its.drop (HT.sIx its.length 0 lo)).take (HT.sIx its.length its.length hi - HT.sIx its.length 0 lo)).toArray := by
  obtain ⟨h1, h2, h3⟩ := slice_bounds lo hi its.toArray.size
  unfold slicePick
  rw [h1, h2, h3]
  simp only [sliceRange_one, pick_run, List.size_toArray] <;> rfl
/-- xs[lo:hi] of a list: a new list -/
def rSlL (K : PySem.W.Frag) : V → Option Int → Option Int → Hp → VK → Prop := fun x lo hi H Q => ∃ a xs, x = .ref a ∧ SqL K H a xs ∧ ∀ p, H p = none → Q (.ref p) (upd H p (.lst (cutV xs lo hi)))
theorem sl_list : SlR X (rSlL X.K) := by
  intro pins s σ H x v vl vu lo hi sl Q I rx hs pl pu h
  obtain ⟨a, xs, rfl, hx, q⟩ := h
  cases rx
  obtain ⟨its, r, ht, hz⟩ := I.list hx
  have hlen := r.length
  refine ⟨"list", _, slot_list_getitem.lookup, ht.isList.typeIs, ?_⟩
  refine wpAny_getItem_list_slice ht.isList hs pl pu .none (by simp) ?_ (by rw [List.size_toArray] <;> omega)
  rw [slicePick_cut, ← hlen]
  refine ⟨.ref s.heap.objs.size, _, I.laid (t' := s.toks) (o := .lst (cutV xs lo hi)) (fun b ob q => Heap.get?_push_of_some _ q) (Nat.le_refl _) ?_, rfl, q _ (I.hok.fresh (Nat.le_refl _))⟩
  exact ⟨Nat.le_trans (cutV_length xs lo hi) hz, _, 0, (r.drop (HT.sIx xs.length 0 lo)).take (HT.sIx xs.length xs.length hi - HT.sIx xs.length 0 lo), Heap.get?_push_size _ rfl⟩

/-! ### in, not in: flat items -/
/-! ### len, list(x), tuple(x) of any list or tuple that is read -/
theorem call_len_seq : CallR X (.builtin "len") (fun xs H Q => ∃ p ys, xs = [.ref p] ∧ (SqL X.K H p ys ∨ SqT X.K H p ys) ∧ Q (.int ys.length) H) := by
  intro pins s σ H xs us Q I r h
  obtain ⟨p, ys, rfl, hq, q⟩ := h
  obtain ⟨u, rfl, rx⟩ := vals1 r
  cases rx
  have hn := line63
  rcases hq with hq | hq
  · obtain ⟨its, r', pl, hz⟩ := I.list hq
    have hlen := r'.length
    exact Calls.call_len_list pl.isList (by simp only [List.size_toArray] <;> omega) ⟨.int ys.length, H, I.tok _, ⟨s.toks + 1, by rw [List.size_toArray, hlen]⟩, q⟩
  · obtain ⟨its, r', pl, hz⟩ := I.tuple hq
    have hlen := r'.length
    exact len_tuple pl (by simp only [List.size_toArray] <;> omega) ⟨.int ys.length, H, I.tok _, ⟨s.toks + 1, by rw [List.size_toArray, hlen]⟩, q⟩
theorem call_len_str : CallR X (.builtin "len") (fun xs H Q => ∃ z, xs = [.str z] ∧ z.length ≤ sizeLine ∧ Q (.int z.length) H) := by
  intro pins s σ H xs us Q I r h
  obtain ⟨z, rfl, hz, q⟩ := h
  obtain ⟨u, rfl, t, rfl⟩ := vals1 r
  have hn := line63
  exact len_str (by omega) ⟨.int z.length, H, I.tok _, ⟨_, rfl⟩, q⟩
theorem CallR.or {f : Value} {r r' : List V → Hp → VK → Prop} (h : CallR X f r) (h' : CallR X f r') : CallR X f (fun xs H Q => r xs H Q ∨ r' xs H Q) := by
  intro pins s σ H xs us Q I rs q
  rcases q with q | q
  · exact h pins s σ H xs us Q I rs q
  · exact h' pins s σ H xs us Q I rs q
theorem call_list_of : CallR X (.type "list") (fun xs H Q => ∃ p ys, xs = [.ref p] ∧ (SqL X.K H p ys ∨ SqT X.K H p ys) ∧ ∀ l, H l = none → Q (.ref l) (upd H l (.lst ys))) := by
  intro pins s σ H xs us Q I r h
  obtain ⟨p, ys, rfl, hq, q⟩ := h
  obtain ⟨u, rfl, rx⟩ := vals1 r
  cases rx
  have fin : ∀ (its : List Value), Vals ys its → ys.length ≤ sizeLine → ∀ (h' : Heap) (c' : Nat), (∀ b o', s.heap.get? b = some o' → h'.get? b = some o') →
      h'.get? s.heap.objs.size = some { cls := .type "list", dict := none, data := .seq its.toArray c', slots := #[] } → EP X pins σ Q (.ref s.heap.objs.size) { s with heap := h' } := fun its r' hz h' c' kp e =>
    ⟨.ref s.heap.objs.size, _, I.laid (t' := s.toks) kp (Nat.le_refl _) (show ObjOk X.prog X.w _ h' _ (.lst ys) from ⟨hz, its, c', r', e⟩), rfl, q _ (I.hok.fresh (Nat.le_refl _))⟩
  rcases hq with hq | hq
  · obtain ⟨its, r', pl, hz⟩ := I.list hq
    have hlen := r'.length
    obtain ⟨o, ho, hc, n, hd⟩ := pl.isList
    exact call_list_seq p (.inl rfl) ho hc hd (fun h' c' kp e => fin its r' hz h' c' kp e) (by simp only [List.size_toArray] <;> omega)
  · obtain ⟨its, r', pl, hz⟩ := I.tuple hq
    have hlen := r'.length
    obtain ⟨o, ho, hc, n, hd⟩ := pl
    exact call_list_seq p (.inr rfl) ho hc hd (fun h' c' kp e => fin its r' hz h' c' kp e) (by simp only [List.size_toArray] <;> omega)
/-! ### the call of a builtin's method: o.m(..) -/
/-- the value is of that builtin type -/
def tyV (K : PySem.W.Frag) (T : String) (x : V) (H : Hp) : Prop := match x with
  | .str _ => T = "str"
  | .int _ => T = "int"
  | .ref p => (T = "list" ∧ ∃ xs, SqL K H p xs) ∨ (T = "tuple" ∧ ∃ o, K.lookup p = some o ∧ o.cls = .type "tuple" ∧ o.dict = none) ∨
      (T = "dict" ∧ ((∃ kvs, H p = some (.dK kvs)) ∨ ∃ kvs, H p = some (.dT kvs))) ∨ (T = "set" ∧ ∃ S n, H p = some (.set S n))
  | _ => False
theorem tyV_is {pins : List (Addr × Obj)} {σ : St} {H : Hp} {s : Shared} {T : String} {x : V} {v : Value} (I : Inv X pins σ H s) (r : RelV x v) (ty : tyV X.K T x H) :
    s.TypeIs v T ∧ ∀ a, v = .ref a → ∃ ob, s.heap.get? a = some ob ∧ ob.dict = none := by
  cases x with
  | str z =>
    obtain ⟨t, rfl⟩ := r
    cases (show T = "str" from ty)
    exact ⟨typeIs_str s z t, fun _ e => nomatch e⟩
  | int i =>
    obtain ⟨t, rfl⟩ := r
    cases (show T = "int" from ty)
    exact ⟨typeIs_int s i t, fun _ e => nomatch e⟩
  | ref p =>
    cases r
    rcases ty with ⟨rfl, xs, hq⟩ | ⟨rfl, o, hk, hc, hd⟩ | ⟨rfl, hk⟩ | ⟨rfl, S, n, hk⟩
    · obtain ⟨its, _, pl, _⟩ := I.list hq
      refine ⟨pl.isList.typeIs, fun a e => ?_⟩
      cases e
      obtain ⟨o, n, e, c, hd, _⟩ := pl
      exact ⟨o, e, hd⟩
    · refine ⟨⟨o, I.kIn p o hk, hc⟩, fun a e => ?_⟩
      cases e
      exact ⟨o, I.kIn _ o hk, hd⟩
    · have z : ∃ o, s.heap.get? p = some o ∧ o.ExactDict := by
        rcases hk with ⟨kvs, hk⟩ | ⟨kvs, hk⟩
        · obtain ⟨_, _, _, _, o, _, _, e, ex, _⟩ := I.hok p _ hk
          exact ⟨o, e, ex⟩
        · obtain ⟨_, _, _, _, o, _, _, e, ex, _⟩ := I.hok p _ hk
          exact ⟨o, e, ex⟩
      obtain ⟨o, e, ex⟩ := z
      refine ⟨⟨o, e, ex.1⟩, fun a e2 => ?_⟩
      cases e2
      exact ⟨o, e, ex.2.1⟩
    · obtain ⟨o, _, _, _, e, ex, _⟩ := I.hok p _ hk
      refine ⟨⟨o, e, ex.1⟩, fun a e2 => ?_⟩
      cases e2
      exact ⟨o, e, ex.2.1⟩
  | _ => exact False.elim ty
def tBM (K : PySem.W.Frag) (T : String) (r : V → List V → Hp → VK → Prop) (to : TE) (t : TA) : TE := fun σ H Q => to σ H fun x H1 => tyV K T x H1 ∧ t σ H1 fun xs H2 => r x xs H2 Q
variable {o e : Expr} {es : List Expr} {to : TE} {t : TA} {name : Str} {apos cpos : Pos} {T id : String} {r : V → List V → Hp → VK → Prop}
theorem pe_bm (pa : PlainAttrs T) (slot : Slot T name id) (hty : typeOf (.builtin id) = pure (.type "method_descriptor")) (hm : MtR X id r) (ho : PE X o to) (ha : PA X (e :: es) t)
    (hbase : attributeBase o name X.env (eval o X.env) = eval o X.env := by rfl)
    (hfew : ((backTo cpos (starEach (e :: es) X.env)).all (fun x => !x.1) && (backToKw cpos (keywordEach [] X.env)).all (fun x => x.1.isSome)
      && decide ((e :: es).length + ([] : List Keyword).length + (if ([] : List Keyword).isEmpty then 0 else 1) < 30)) = true := by rfl)
    (hline : (apos.endLine == cpos.line) = true := by rfl) (hs : starEach (e :: es) X.env = (false, eval e X.env) :: starEach es X.env := by rfl) (hplain : (backTo cpos (starEach es X.env)).any (·.1) = false := by rfl) :
    PE X (.Call (.Attribute o name apos) (e :: es) [] cpos) (tBM X.K T r to t) := by
  intro pins s σ H Q I h
  refine wpAny_Call_method_late hbase hfew hline rfl (thn (ho pins s σ H _ I h) fun v s1 ⟨x, H1, I1, r1, ty, q1⟩ => ?_)
  obtain ⟨h1, h2⟩ := tyV_is I1 r1 ty
  refine ⟨T, id, pa, slot, hty, h1, h2, ?_⟩
  have hA := ha cpos pins s1 σ H1 _ I1 q1
  rw [hs] at hA ⊢
  refine Calls.callWith_builtin (by show (false || (backTo cpos (starEach es X.env)).any (·.1)) = false; rw [hplain] <;> rfl) (Calls.evalArgs_plain ?_)
  exact thn hA fun us s2 ⟨vs, H2, I2, r2, q2⟩ => hm pins s2 σ H2 x vs v us Q I2 r1 r2 q2
/- xs.append(e), list.index on a module's tuple .. are MtR facts of 06m -/
end
end L2

namespace L2
open PySem PySem.Spec PyProof.Rows

def MtM (X : Cx) (id : String) (r : V → List V → Hp → VK → Prop) : Prop :=
  ∀ (pins : List (Addr × Obj)) (s : Shared) (σ : St) (H : Hp) (x : V) (xs : List V) (v : Value) (us : List Value) (Q : VK), Inv X pins σ H s → RelV x v → Vals xs us → r x xs H Q →
    wpAny (model X.prog X.w) X.A (call (.builtin id) (v :: us)) (EP X pins σ Q) X.xe s

/-! ### lists of values -/
theorem Vals.one : ∀ {x : V} {us : List Value}, Vals [x] us → ∃ u, us = [u] ∧ RelV x u
  | _, _, .cons r .nil => ⟨_, rfl, r⟩
theorem Vals.two : ∀ {x y : V} {us : List Value}, Vals [x, y] us → ∃ u v, us = [u, v] ∧ RelV x u ∧ RelV y v
  | _, _, _, .cons r (.cons q .nil) => ⟨_, _, rfl, r, q⟩
theorem Vals.zero : ∀ {us : List Value}, Vals [] us → us = []
  | _, .nil => rfl
theorem Vals.dropLast {xs : List V} {us : List Value} (h : Vals xs us) : Vals xs.dropLast us.dropLast := by
  induction h with
  | nil => exact .nil
  | cons r t ih =>
    cases t with
    | nil => exact .nil
    | cons q t' => exact .cons r ih
theorem Vals.eraseIdx : ∀ {xs : List V} {us : List Value} (i : Nat), Vals xs us → Vals (xs.eraseIdx i) (us.eraseIdx i)
  | _, _, _, .nil => .nil
  | _, _, 0, .cons _ t => t
  | _, _, i + 1, .cons r t => .cons r (Vals.eraseIdx i t)
theorem Vals.reverse {xs : List V} {us : List Value} (h : Vals xs us) : Vals xs.reverse us.reverse := by
  induction h with
  | nil => exact .nil
  | cons r t ih => rw [List.reverse_cons, List.reverse_cons]; exact Vals.append ih (.cons r .nil)
theorem Vals.rep {xs : List V} {us : List Value} (h : Vals xs us) : ∀ k : Nat, Vals (List.replicate k xs).flatten (List.replicate k us).flatten
  | 0 => .nil
  | k + 1 => by
    rw [List.replicate_succ, List.replicate_succ, List.flatten_cons, List.flatten_cons]
    exact Vals.append h (Vals.rep h k)
theorem foldl_rep (its : List Value) : ∀ (k : Nat) (acc : List Value),
    List.foldl (fun x1 x2 => x1 ++ x2) acc.toArray (List.replicate k its.toArray) = (acc ++ (List.replicate k its).flatten).toArray
  | 0, acc => by simp
  | k + 1, acc => by
    have e : acc.toArray ++ its.toArray = (acc ++ its).toArray := by simp
    have e2 : (acc ++ its) ++ (List.replicate k its).flatten = acc ++ (List.replicate (k + 1) its).flatten := by
      rw [List.replicate_succ, List.flatten_cons, List.append_assoc]
    rw [← e2, ← foldl_rep its k (acc ++ its), ← e, List.replicate_succ, List.foldl_cons]

section
variable {X : Cx} {pins : List (Addr × Obj)} {σ : St} {H : Hp} {s : Shared} {l b : Addr} {xs ys zs : List V}

/-! ### the two steps: a tracked list is rewritten, a new list is laid -/
theorem Inv.lset {its its' : List Value} {n : Nat} {f : Array Value → Array Value} {t' : Nat} (I : Inv X pins σ H s) (hH : H l = some (.lst xs))
    (e : s.heap.get? l = some { cls := .type "list", data := .seq its.toArray n }) (hf : f its.toArray = its'.toArray) (hv : Vals ys its') (hz : ys.length ≤ sizeLine) :
    Inv X pins σ (upd H l (.lst ys)) { s with heap := s.heap.update l (Obj.mapSeq f), toks := t' } := by
  have q := PySem.IsL.update e f
  rw [hf] at q
  refine I.write (x := l) (e := l) (by rw [hH]; exact trivial) (.inl rfl) (fun b' u hb hu => (Heap.get?_update_other s.heap (Obj.mapSeq f) (Ne.symm hb)).trans hu) ⟨_, q⟩ ?_
  exact ⟨hz, its', _, hv, q⟩
theorem Inv.lnew {its : List Value} {t' : Nat} (I : Inv X pins σ H s) (hv : Vals ys its) (hz : ys.length ≤ sizeLine) :
    Inv X pins σ (upd H s.heap.objs.size (.lst ys)) { s with heap := s.heap.push { cls := .type "list", data := .seq its.toArray }, toks := t' } :=
  I.laid (fun _ _ q => Heap.get?_push_of_some _ q) (Nat.le_refl _) ⟨hz, its, 0, hv, Heap.get?_push_size _ rfl⟩
theorem Inv.fresh (I : Inv X pins σ H s) : H s.heap.objs.size = none := I.hok.fresh (Nat.le_refl _)
theorem Inv.lstM (I : Inv X pins σ H s) (hH : H l = some (.lst xs)) : xs.length ≤ sizeLine ∧ ∃ (its : List Value) (n : Nat), Vals xs its ∧ xs.length = its.length ∧ s.heap.get? l = some { cls := .type "list", data := .seq its.toArray n } := by
  obtain ⟨z, its, n, r, e⟩ := I.hok l _ hH
  exact ⟨z, its, n, r, r.length, e⟩

theorem notLongL {n : Nat} (h : n ≤ sizeLine) : Builtin.List.listTooLong n = false := by
  unfold Builtin.List.listTooLong
  exact decide_eq_false (by omega)
end

section
variable {X : Cx}

/-! ### methods -/
def rAppend : V → List V → Hp → VK → Prop := fun x vs H Q => ∃ l xs y, x = .ref l ∧ vs = [y] ∧ H l = some (.lst xs) ∧ xs.length < sizeLine ∧ Q .non (upd H l (.lst (xs ++ [y])))
theorem mt_append : MtM X "list.append" rAppend := by
  intro pins s σ H x vs v us Q I rx rv h
  obtain ⟨l, xs, y, rfl, rfl, hH, hz, q⟩ := h
  cases rx
  obtain ⟨u, rfl, ru⟩ := rv.one
  obtain ⟨z, its, n, r, hl, e⟩ := I.lstM hH
  refine call_meets F.slot_list_append ⟨_, e, rfl⟩ F.entry_list_append (F.args_list_append_2 _ _) (PySem.list_append l its.toArray n u (by rw [List.size_toArray]; omega)) ⟨e, ?_⟩
  refine ⟨.non, _, I.lset (its' := its ++ [u]) hH e (by simp) (r.append (.cons ru .nil)) ?_, rfl, q⟩
  rw [List.length_append, List.length_singleton]
  omega

def rExtend : V → List V → Hp → VK → Prop := fun x vs H Q => ∃ l b xs zs, x = .ref l ∧ vs = [.ref b] ∧ H l = some (.lst xs) ∧ H b = some (.lst zs) ∧ xs.length + zs.length ≤ sizeLine ∧ Q .non (upd H l (.lst (xs ++ zs)))
theorem mt_extend : MtM X "list.extend" rExtend := by
  intro pins s σ H x vs v us Q I rx rv h
  obtain ⟨l, b, xs, zs, rfl, rfl, hH, hB, hz, q⟩ := h
  cases rx
  obtain ⟨u, rfl, ru⟩ := rv.one
  cases ru
  obtain ⟨z, its, n, r, hl, e⟩ := I.lstM hH
  obtain ⟨z2, its2, n2, r2, hl2, e2⟩ := I.lstM hB
  have hsz : its.toArray.size + its2.toArray.size ≤ sizeLine := by rw [List.size_toArray, List.size_toArray]; omega
  have hlong : ¬ (!its.toArray.isEmpty && Builtin.List.listTooLong (its.toArray.size + its2.toArray.size)) = true := by
    rw [notLongL hsz, Bool.and_false]
    exact Bool.false_ne_true
  refine call_meets F.slot_list_extend ⟨_, e, rfl⟩ F.entry_list_extend (F.args_list_extend_2 _ _)
    (AutoSeq1.list_extend_list_list_0 l its.toArray n b its2.toArray n2 hlong (by rw [List.size_toArray]; omega) (by omega)) ⟨e, e2, ?_⟩
  refine ⟨.non, _, I.lset (its' := its ++ its2) hH e (by simp) (r.append r2) ?_, rfl, q⟩
  rw [List.length_append]
  omega

/-! ### list + list, list += list, list * int -/
def rCat : R2 := fun x y H Q => ∃ l b xs zs, x = .ref l ∧ y = .ref b ∧ H l = some (.lst xs) ∧ H b = some (.lst zs) ∧ xs.length + zs.length ≤ sizeLine ∧ ∀ p, H p = none → Q (.ref p) (upd H p (.lst (xs ++ zs)))
theorem op_cat : OpR X (binaryOp .Add) rCat := by
  intro pins s σ H x y v u Q I rx ry h
  obtain ⟨l, b, xs, zs, rfl, rfl, hH, hB, hz, q⟩ := h
  cases rx
  cases ry
  obtain ⟨z, its, n, r, hl, e⟩ := I.lstM hH
  obtain ⟨z2, its2, n2, r2, hl2, e2⟩ := I.lstM hB
  refine PySem.P.add_list e e2 ?_ (by rw [List.size_toArray, List.size_toArray]; omega)
  have ea : its.toArray ++ its2.toArray = (its ++ its2).toArray := by simp
  rw [ea]
  exact ⟨.ref _, _, I.lnew (t' := s.toks) (r.append r2) (by rw [List.length_append]; omega), rfl, q _ I.fresh⟩
/-- a list times an int (a negative one is nothing) -/
def rRep : R2 := fun x y H Q => ∃ l k xs, x = .ref l ∧ y = .int k ∧ H l = some (.lst xs) ∧ -(2 ^ 63) ≤ k ∧ k < 2 ^ 63 ∧ xs.length * k.toNat ≤ sizeLine ∧
  ∀ p, H p = none → Q (.ref p) (upd H p (.lst (List.replicate k.toNat xs).flatten))
theorem len_rep {α : Type} (xs : List α) (k : Nat) : (List.replicate k xs).flatten.length = k * xs.length := by
  induction k with
  | zero => simp
  | succ k ih => rw [List.replicate_succ, List.flatten_cons, List.length_append, ih, Nat.succ_mul, Nat.add_comm]
theorem op_rep : OpR X (binaryOp .Mult) rRep := by
  intro pins s σ H x y v u Q I rx ry h
  obtain ⟨l, k, xs, rfl, rfl, hH, h1, h2, hz, q⟩ := h
  cases rx
  obtain ⟨t, rfl⟩ := ry
  obtain ⟨z, its, n, r, hl, e⟩ := I.lstM hH
  have hlen : its.toArray.size * k.toNat ≤ sizeLine := by rw [List.size_toArray, ← hl]; exact hz
  have hcap : ¬ its.toArray.size * k.toNat > (2 ^ 63 - 1) / 8 := by
    have : (sizeLine : Nat) ≤ (2 ^ 63 - 1) / 8 := by decide
    omega
  have hfit : ¬ (!Builtin.List.listFitsIndex k) = true := by
    rw [fitsIndex_both h1 h2]
    exact Bool.false_ne_true
  have hlong : ¬ Builtin.List.listTooLong (its.toArray.size * k.toNat) = true := by
    rw [notLongL hlen]
    exact Bool.false_ne_true
  have hnew : List.foldl (fun x1 x2 => x1 ++ x2) #[] (List.replicate (if its.toArray.isEmpty = true then 0 else k.toNat) its.toArray) = (List.replicate k.toNat its).flatten.toArray := by
    have f0 : ∀ m : Nat, List.foldl (fun x1 x2 => x1 ++ x2) #[] (List.replicate m its.toArray) = (List.replicate m its).flatten.toArray := fun m => by
      have := foldl_rep its m []
      rw [List.nil_append] at this
      exact this
    rw [f0]
    cases its with
    | nil => simp
    | cons a r' => rw [if_neg (by simp)]
  refine wpAny_binaryOp_repeat_ref (T := "list") (U := "int") (by decide) ⟨_, e, rfl⟩ (fun s' => typeIs_int s' k t) noFill_list_mul F.fills_int_mul F.slot_int_rmul repeat_list F.slot_int_index.lookup
    (call_meets F.slot_int_rmul (typeIs_int s k t) F.entry_int_rmul (F.args_int_rmul_2 _ _) (int___rmul___int_list k t l its.toArray n)
      ⟨e, rfl, ⟨_, e, rfl⟩, call_meets F.slot_list_mul ⟨_, e, rfl⟩ F.entry_list_mul (F.args_list_mul_2 _ _) (AutoListH.list___mul___list_int_3 l its.toArray n k t hfit hcap hlong) ⟨e, ?_⟩⟩)
  rw [hnew]
  exact ⟨.ref _, _, I.lnew (t' := s.toks) (r.rep k.toNat) (by rw [len_rep, Nat.mul_comm]; exact hz), rfl, q _ I.fresh⟩

/-! ### del xs[i] -/
end

/-! ### xs[a:b] = ys -/
section
variable {prog : Program} {w : World} {A : Around} {E : Value → Shared → Prop} {s : Shared}
end

section
variable {X : Cx}
end
end L2

namespace L2
open PySem PySem.Spec PyProof.Rows

theorem Vals.ints : ∀ {ns : List Int} {us : List Value}, Vals (ns.map V.int) us → IntsAre us ns
  | [], us, h => by
    rw [List.map_nil] at h
    cases h
    exact IntsAre.nil
  | n :: ns, us, h => by
    rw [List.map_cons] at h
    cases h with
    | cons r t =>
      obtain ⟨k, rfl⟩ := r
      exact IntsAre.cons n k (Vals.ints t)
theorem vals_of_ints : ∀ {us : List Value} {ns : List Int}, IntsAre us ns → Vals (ns.map V.int) us
  | _, _, .nil => by rw [List.map_nil]; exact Paired.nil
  | _, _, .cons n t h => by rw [List.map_cons]; exact Paired.cons (show RelV (V.int n) (Value.int n t) from ⟨t, rfl⟩) (vals_of_ints h)
theorem Vals.strs : ∀ {xs : List Str} {us : List Value}, Vals (xs.map V.str) us → StrsAre us xs
  | [], us, h => by
    rw [List.map_nil] at h
    cases h
    exact StrsAre.nil
  | x :: xs, us, h => by
    rw [List.map_cons] at h
    cases h with
    | cons r t =>
      obtain ⟨k, rfl⟩ := r
      exact StrsAre.cons x k (Vals.strs t)
theorem Vals.bls : ∀ {bs : List Bool} {us : List Value}, Vals (bs.map V.bl) us → us = bs.map Value.bool
  | [], us, h => by
    rw [List.map_nil] at h
    cases h
    rfl
  | b :: bs, us, h => by
    rw [List.map_cons] at h
    cases h with
    | cons r t =>
      cases r
      rw [Vals.bls t, List.map_cons]
theorem Vals.ref1 {a : Addr} {us : List Value} (r : Vals [V.ref a] us) : us = [Value.ref a] := by
  cases r with
  | cons r t =>
    cases t
    cases r
    rfl
/-! ### the library's walks over a list of ints, kept objects alone -/
section
variable {prog : Program} {w : World} {A : Around} {E : Value → Shared → Prop} {s : Shared} {l : Addr} {its : List Value} {ns : List Int} {Q : Value → Shared → Prop}
theorem sum_raw (hh : A.handled = none) (hl : s.heap.IsList l its.toArray) (hi : IntsAre its ns)
    (h : ∀ h' tk t', (∀ b o, s.heap.get? b = some o → h'.get? b = some o) → Q (.int ns.sum t') { s with heap := h', toks := tk }) : wpAny (model prog w) A (call (.builtin "sum") [.ref l]) Q E s := by
  obtain ⟨xs, e⟩ := hi.allInts.items
  have hn : numsOf (intItems xs).toList = ns := by rw [← e]; exact hi.numsOf
  rw [nums_intItems] at hn
  rw [e] at hl
  refine PySem.sum_intListG hh hl fun h' tk t' hk => ?_
  have := h h' tk t' hk
  rw [preSum_eq, List.take_of_length_le (by simp), hn]; exact this
end

/-! ### the calls, by values (CallR of 03t; MtR of 06l) -/
section
variable {X : Cx}
/-- sum(xs) of a list of ints -/
def rSum (K : PySem.W.Frag) : List V → Hp → VK → Prop := fun vs H Q => ∃ (a : Addr) (ns : List Int), vs = [V.ref a] ∧ SqL K H a (ns.map V.int) ∧ Q (.int ns.sum) H
theorem cr_sum (hc : X.calm = true) : CallR X (.builtin "sum") (rSum X.K) := by
  intro pins s σ H vs us Q I r h
  obtain ⟨a, ns, rfl, hs, q⟩ := h
  obtain ⟨its, rv, hl, _⟩ := I.list hs
  rw [Vals.ref1 r]
  exact sum_raw (I.ok.hd hc) hl.isList rv.ints fun h' tk t' hk => ⟨.int _, H, I.kept hk, ⟨_, rfl⟩, q⟩
/-! sorted, sort (fewer than 64 items: the library's own bound) -/
end

/-! ### list.index, flat items -/
section
variable {X : Cx}
end

/-! ### type(x) of an own instance; is, is not of a module's class -/
section
variable {X : Cx}
end

/-! ### any(xs), all(xs) of a list of bools -/
theorem iter_any {prog : Program} {w : World} {A : Around} {E : Value → Shared → Prop} {s : Shared} {l : Addr} {items : Array Value} {Q : Value → Shared → Prop} (hl : s.heap.IsList l items)
    (h : ∀ s₂ : Shared, s₂ = { s with heap := s.heap.push { cls := .type "list_iterator", data := .fields #[.ref l, .int 0 0] } } →
      (s₂.heap.IsListIter s.heap.objs.size l 0 ∧ s₂.heap.IsList l items) → l ≠ s.heap.objs.size → Q (.ref s.heap.objs.size) s₂) : wpAny (model prog w) A (pyIter (.ref l)) Q E s := by
  have hlt : l < s.heap.objs.size := by obtain ⟨_, e, _⟩ := hl; exact Heap.lt_size e
  exact wpAny_pyIter_list hl (h _ rfl ⟨⟨_, Heap.get?_push_size _ rfl, rfl, rfl⟩, hl.push _⟩ (Nat.ne_of_lt hlt))
theorem truth_bools {prog : Program} {w : World} {A : Around} {bs : List Bool} {its : List Value} (e : its = bs.map Value.bool) :
    TruthOf prog w A (fun i v => its.toArray[i]? = some v) (fun i => bs.getD i false) := fun i v s Q E hv hq => by
  have hv' : its[i]? = some v := by simpa using hv
  rw [e, List.getElem?_map] at hv'
  obtain ⟨b, hb, rfl⟩ := Option.map_eq_some_iff.mp hv'
  have hg : bs.getD i false = b := by rw [List.getD_eq_getElem?_getD, hb] <;> rfl
  have hq' : Q (bs.getD i false) s := hq
  rw [hg] at hq'
  exact wpAny_truthy_bool hq'
theorem all_range : ∀ bs : List Bool, (List.range bs.length).all (fun i => bs.getD i false) = bs.all id
  | [] => rfl
  | b :: bs => by
    rw [List.length_cons, List.range_succ_eq_map, List.all_cons, List.all_map, List.all_cons, ← all_range bs]
    all_goals rfl
section
variable {X : Cx}
def rAll (K : PySem.W.Frag) : List V → Hp → VK → Prop := fun vs H Q => ∃ (a : Addr) (bs : List Bool), vs = [V.ref a] ∧ SqL K H a (bs.map V.bl) ∧ Q (.bl (bs.all id)) H
theorem cr_all (hc : X.calm = true) : CallR X (.builtin "all") (rAll X.K) := by
  intro pins s σ H vs us Q I r h
  obtain ⟨a, bs, rfl, hs, q⟩ := h
  obtain ⟨its, rv, hl, _⟩ := I.list hs
  rw [Vals.ref1 r]
  have hb := rv.bls
  refine call_all_walk (iter_any hl.isList fun s₂ e2 st hne => ?_)
  subst e2
  refine ⟨_, _, _, _, _, _, _, rfl, Walks.list (A := X.A.in1) (I.ok.hd hc) _ a hne its.toArray, st, truth_bools hb, fun h' tk hk => ?_⟩
  refine ⟨.bl _, H, I.kept fun b o eo => hk b o (fun hmem => ?_) (Heap.get?_push_of_some _ eo), ?_, q⟩
  · rcases List.mem_cons.mp hmem with e1 | hmem
    · exact absurd (e1 ▸ Heap.lt_size eo) (Nat.lt_irrefl _)
    · cases hmem
  · show Value.bool _ = Value.bool _
    rw [← all_range, hb, List.size_toArray, List.length_map]
end

/-! ### == and != of data at any depth: none, bools, ints, texts, lists, tuples -/
mutual
inductive Dp (K : PySem.W.Frag) (H : Hp) : V → PyData → Prop
  | non : Dp K H .non .none
  | bl (b : Bool) : Dp K H (.bl b) (.bool b)
  | int (i : Int) : Dp K H (.int i) (.int i)
  | str (x : Str) : Dp K H (.str x) (.str x)
  | lst {a : Addr} {xs : List V} {ds : List PyData} : SqL K H a xs → DpAll K H xs ds → Dp K H (.ref a) (.list ds)
  | tup {a : Addr} {xs : List V} {ds : List PyData} : SqT K H a xs → DpAll K H xs ds → Dp K H (.ref a) (.tuple ds)
inductive DpAll (K : PySem.W.Frag) (H : Hp) : List V → List PyData → Prop
  | nil : DpAll K H [] []
  | cons {v : V} {vs : List V} {d : PyData} {ds : List PyData} : Dp K H v d → DpAll K H vs ds → DpAll K H (v :: vs) (d :: ds)
end
section
variable {X : Cx} {pins : List (Addr × Obj)} {σ : St} {H : Hp} {s : Shared}
mutual
theorem Dp.reads (I : Inv X pins σ H s) : ∀ (d : PyData) (v : V) (u : Value), Dp X.K H v d → RelV v u → ∃ as, Reads s.heap u d as
  | .none, _, _, h, r => by
    cases h
    cases r
    exact ⟨_, Reads.none⟩
  | .bool b, _, _, h, r => by
    cases h
    cases r
    exact ⟨_, Reads.bool b⟩
  | .int i, _, _, h, r => by
    cases h
    obtain ⟨t, rfl⟩ := r
    exact ⟨_, Reads.int i t⟩
  | .str x, _, _, h, r => by
    cases h
    obtain ⟨t, rfl⟩ := r
    exact ⟨_, Reads.str x t⟩
  | .list ds, _, _, h, r => by
    cases h with
    | lst hs ha =>
      cases r
      obtain ⟨its, rv, ⟨o, n, ho, hc, _, hd⟩, _⟩ := I.list hs
      obtain ⟨as, hr⟩ := Dp.readsAll I ds _ its ha rv
      exact ⟨_, Reads.list ho hc hd hr⟩
  | .tuple ds, _, _, h, r => by
    cases h with
    | tup hs ha =>
      cases r
      obtain ⟨its, rv, ⟨o, ho, hc, n, hd⟩, _⟩ := I.tuple hs
      obtain ⟨as, hr⟩ := Dp.readsAll I ds _ its ha rv
      exact ⟨_, Reads.tuple ho hc hd hr⟩
  | .dict _, _, _, h, _ => by cases h
theorem Dp.readsAll (I : Inv X pins σ H s) : ∀ (ds : List PyData) (vs : List V) (us : List Value), DpAll X.K H vs ds → Vals vs us → ∃ as, ReadsAll s.heap us ds as
  | [], _, _, h, r => by
    cases h
    cases r
    exact ⟨_, ReadsAll.nil⟩
  | d :: ds, _, _, h, r => by
    cases h with
    | cons h1 h2 =>
      cases r with
      | cons r1 r2 =>
        obtain ⟨as, q1⟩ := Dp.reads I d _ _ h1 r1
        obtain ⟨bs, q2⟩ := Dp.readsAll I ds _ _ h2 r2
        exact ⟨_, ReadsAll.cons q1 q2⟩
end
end
section
variable {X : Cx}
def rNeD (K : PySem.W.Frag) : R2 := fun x y H Q => ∃ d e, Dp K H x d ∧ Dp K H y e ∧ SeqAt.shaped d = true ∧ SeqAt.shaped e = true ∧ Q (.bl (!PyData.eqv d e)) H
theorem op_neD (hu : X.A.units + 64 < cLine) : OpR X (compareOp .NotEq) (rNeD X.K) := by
  intro pins s σ H x y v u Q I rx ry h
  obtain ⟨d, e, hd, he, sd, se, q⟩ := h
  obtain ⟨as, r1⟩ := Dp.reads I d x v hd rx
  obtain ⟨bs, r2⟩ := Dp.reads I e y u he ry
  exact SeqAt.compareNe_shaped r1 r2 sd se hu ⟨.bl _, H, I, rfl, q⟩
end
end L2

namespace L2
open PySem PySem.Spec PyProof.Rows
abbrev CellAt (h : Heap) (c : Addr) (v : Option Value) : Prop := h.IsCell c v
def relS (scope sc : Scope) : Scope :=
  { scope with names := scope.names.map fun (n, k) => if (k == .free && sc.kind == .function && sc.names.lookup n == some .cell) then (n, .cell) else (n, k) }

def cloFrom (cells : List (Str × Addr)) : List (Str × NameKind) → List (Str × Addr) → List (Str × Addr)
  | [], acc => acc
  | (n, k) :: r, acc => if k == .free then cloFrom cells r ((n, (cells.lookup n).getD 0) :: acc) else cloFrom cells r acc

theorem closure_loop (env : Env) (f : Str × NameKind → List (Str × Addr) → Sem (ForInStep (List (Str × Addr))))
    (hf : ∀ n k c, f (n, k) c = if k == .free then (do let a ← cellOf env n; pure (.yield ((n, a) :: c))) else pure (.yield c)) :
    ∀ (names : List (Str × NameKind)) (acc : List (Str × Addr)), (∀ y ∈ names, y.2 = .free → ∃ c, env.cells.lookup y.1 = some c) → forIn names acc f = pure (cloFrom env.cells names acc)
  | [], acc, _ => by rw [List.forIn_nil]; rfl
  | (n, k) :: r, acc, h => by
    rw [List.forIn_cons, hf]
    have ih := fun acc => closure_loop env f hf r acc fun y hy => h y (List.mem_cons_of_mem _ hy)
    unfold cloFrom
    by_cases hk : (k == NameKind.free) = true
    · rw [if_pos hk, if_pos hk]
      obtain ⟨c, hc⟩ := h (n, k) List.mem_cons_self (by simpa using hk)
      have e : cellOf env n = pure c := by unfold cellOf; rw [hc]
      rw [e]
      have e2 : (env.cells.lookup n).getD 0 = c := by rw [hc]; rfl
      rw [e2]
      exact ih _
    · rw [if_neg hk, if_neg hk]
      exact ih _
theorem closure_ok {scope : Scope} {env : Env} (h : ∀ y ∈ scope.names, y.2 = .free → ∃ c, env.cells.lookup y.1 = some c) : closureFor scope env = pure (cloFrom env.cells scope.names []) := by
  simp only [closureFor]
  rw [closure_loop env _ (fun n k c => rfl) scope.names [] h]
  rfl

theorem mem_lookup {α : Type} : ∀ {l : List (Str × α)} {n : Str} {c : α}, (n, c) ∈ l → ∃ c', l.lookup n = some c'
  | (k, v) :: r, n, c, h => by
    rw [List.lookup_cons]
    cases hb : n == k with
    | true => exact ⟨_, rfl⟩
    | false =>
      rcases List.mem_cons.mp h with e | h
      · cases e; simp at hb
      · exact mem_lookup h

theorem cloFrom_mem {cells : List (Str × Addr)} : ∀ {names : List (Str × NameKind)} {acc : List (Str × Addr)} {n : Str} {c : Addr}, (n, c) ∈ cloFrom cells names acc → (n, c) ∈ acc ∨ ((n, .free) ∈ names ∧ c = (cells.lookup n).getD 0)
  | [], _, _, _, h => .inl h
  | (m, k) :: r, acc, n, c, h => by
    unfold cloFrom at h
    split at h
    · rename_i hk
      have hk : k = .free := by simpa using hk
      rcases cloFrom_mem h with h | ⟨h1, h2⟩
      · rcases List.mem_cons.mp h with e | h
        · cases e; exact .inr ⟨hk ▸ List.mem_cons_self, rfl⟩
        · exact .inl h
      · exact .inr ⟨List.mem_cons_of_mem _ h1, h2⟩
    · rcases cloFrom_mem h with h | ⟨h1, h2⟩
      · exact .inl h
      · exact .inr ⟨List.mem_cons_of_mem _ h1, h2⟩
theorem cloFrom_acc {cells : List (Str × Addr)} : ∀ {names : List (Str × NameKind)} {acc : List (Str × Addr)} {p : Str × Addr}, p ∈ acc → p ∈ cloFrom cells names acc
  | [], _, _, h => h
  | (m, k) :: r, acc, p, h => by
    unfold cloFrom
    split
    · exact cloFrom_acc (List.mem_cons_of_mem _ h)
    · exact cloFrom_acc h
theorem cloFrom_has {cells : List (Str × Addr)} : ∀ {names : List (Str × NameKind)} {acc : List (Str × Addr)} {n : Str}, (n, .free) ∈ names → (n, (cells.lookup n).getD 0) ∈ cloFrom cells names acc
  | (m, k) :: r, acc, n, h => by
    unfold cloFrom
    rcases List.mem_cons.mp h with e | h
    · cases e
      exact cloFrom_acc List.mem_cons_self
    · split
      · exact cloFrom_has h
      · exact cloFrom_has h

theorem cells_mem : ∀ {names : List (Str × NameKind)} {h : Heap} {acc : List (Str × Addr)} {x : Str} {c : Addr}, (x, c) ∈ cellsFrom h.objs.size names acc →
    (x, c) ∈ acc ∨ ((x, .cell) ∈ names ∧ h.objs.size ≤ c ∧ CellAt (pushCells h names) c none)
  | [], _, _, _, _, h => .inl h
  | (n, k) :: r, h, acc, x, c, hm => by
    unfold cellsFrom at hm
    unfold pushCells
    split at hm
    · rename_i hk
      rw [if_pos hk]
      have hk : k = .cell := by simpa using hk
      rw [← Heap.size_push h { cls := .type "cell", data := .cell none }] at hm
      rcases cells_mem hm with hm | ⟨h1, h2, h3⟩
      · rcases List.mem_cons.mp hm with e | hm
        · cases e
          exact .inr ⟨hk ▸ List.mem_cons_self, Nat.le_refl _, _, pushCells_keeps r _ _ _ (Heap.get?_push_size _ rfl), rfl⟩
        · exact .inl hm
      · rw [Heap.size_push] at h2
        exact .inr ⟨List.mem_cons_of_mem _ h1, Nat.le_of_succ_le h2, h3⟩
    · rename_i hk
      rw [if_neg hk]
      rcases cells_mem hm with hm | ⟨h1, h2, h3⟩
      · exact .inl hm
      · exact .inr ⟨List.mem_cons_of_mem _ h1, h2, h3⟩
theorem cells_acc : ∀ {names : List (Str × NameKind)} {n : Nat} {acc : List (Str × Addr)} {p : Str × Addr}, p ∈ acc → p ∈ cellsFrom n names acc
  | [], _, _, _, h => h
  | (m, k) :: r, n, acc, p, h => by
    unfold cellsFrom
    split
    · exact cells_acc (List.mem_cons_of_mem _ h)
    · exact cells_acc h
theorem cells_has : ∀ {names : List (Str × NameKind)} {n : Nat} {acc : List (Str × Addr)} {x : Str}, (x, .cell) ∈ names → ∃ c, (x, c) ∈ cellsFrom n names acc
  | (m, k) :: r, n, acc, x, h => by
    unfold cellsFrom
    rcases List.mem_cons.mp h with e | h
    · cases e
      exact ⟨n, cells_acc List.mem_cons_self⟩
    · split
      · exact cells_has h
      · exact cells_has h
theorem cells_inj : ∀ {names : List (Str × NameKind)} {h : Heap} {acc : List (Str × Addr)} {x y : Str} {c : Addr}, (∀ p ∈ acc, p.2 < h.objs.size) → (∀ x y c, (x, c) ∈ acc → (y, c) ∈ acc → x = y) →
    (x, c) ∈ cellsFrom h.objs.size names acc → (y, c) ∈ cellsFrom h.objs.size names acc → x = y
  | [], _, _, _, _, _, _, hi, h1, h2 => hi _ _ _ h1 h2
  | (n, k) :: r, h, acc, x, y, c, hl, hi, h1, h2 => by
    unfold cellsFrom at h1 h2
    split at h1
    · rename_i hk
      rw [if_pos hk] at h2
      rw [← Heap.size_push h { cls := .type "cell", data := .cell none }] at h1 h2
      refine cells_inj (h := h.push _) (fun p hp => ?_) (fun x y c a b => ?_) h1 h2
      · rw [Heap.size_push]
        rcases List.mem_cons.mp hp with rfl | hp
        · exact Nat.lt_succ_self _
        · exact Nat.lt_succ_of_lt (hl p hp)
      · rcases List.mem_cons.mp a with e | a <;> rcases List.mem_cons.mp b with e' | b
        · cases e; cases e'; rfl
        · cases e; exact absurd (hl _ b) (Nat.lt_irrefl _)
        · cases e'; exact absurd (hl _ a) (Nat.lt_irrefl _)
        · exact hi _ _ _ a b
    · rename_i hk
      rw [if_neg hk] at h2
      exact cells_inj hl hi h1 h2

theorem newEnv_comp {M : Model} {A : Around} {E : Value → Shared → Prop} {s : Shared} {scope : Scope} {globals : Addr} {closure : List (Str × Addr)} {qual : Str} {func : Option Addr} {code : Value} {around : Env} {builtins : Addr} {Q : Env → Shared → Prop}
    (h : Q (newEnv scope s.heap.objs.size globals (cellsFrom (s.heap.objs.size + 1) scope.names closure) qual func code (some around) builtins)
      { s with heap := pushCells (s.heap.push { cls := .type "dict", data := .dict #[] }) scope.names }) :
    wpAny M A (newFunctionEnv scope globals closure [] qual func code (some around) builtins) Q E s := by
  simp only [newFunctionEnv, Option.isSome_some, if_true]
  refine wpAny_bind (wpAny_alloc ?_)
  refine wpAny_bind (wpAny_layCells _ (fun n k c => rfl) scope.names closure _ _ ?_)
  rw [show ({ s with heap := s.heap.push { cls := .type "dict", data := .dict #[] } } : Shared).heap.objs.size = s.heap.objs.size + 1 from Heap.size_push ..]
  rw [List.forIn_nil]
  exact wpAny_bind (wpAny_pure (wpAny_pure h))

/-- every name of the written scope, in the scope that runs -/
theorem lookup_relS {sc : Scope} : ∀ {names : List (Str × NameKind)} {x : Str} {k : NameKind},
    (names.map fun (n, k) => if (k == NameKind.free && sc.kind == .function && sc.names.lookup n == some .cell) then (n, NameKind.cell) else (n, k)).lookup x = some k →
    ∃ k', names.lookup x = some k' ∧ (k = k' ∨ (k' = .free ∧ k = .cell))
  | [], _, _, h => by simp at h
  | (n, k₀) :: r, x, k, h => by
    have ih := @lookup_relS sc r x k
    have h' : List.lookup x ((if (k₀ == NameKind.free && sc.kind == .function && sc.names.lookup n == some .cell) = true then (n, NameKind.cell) else (n, k₀)) :: (r.map _)) = some k := h
    cases hx : x == n with
    | true =>
      simp only [List.lookup_cons, hx]
      by_cases hc : (k₀ == NameKind.free && sc.kind == .function && sc.names.lookup n == some .cell) = true
      · rw [if_pos hc] at h'
        simp only [List.lookup_cons, hx] at h'
        cases h'
        simp only [Bool.and_eq_true, beq_iff_eq] at hc
        exact ⟨k₀, rfl, .inr ⟨hc.1.1, rfl⟩⟩
      · rw [if_neg hc] at h'
        simp only [List.lookup_cons, hx] at h'
        cases h'
        exact ⟨_, rfl, .inl rfl⟩
    | false =>
      simp only [List.lookup_cons, hx]
      by_cases hc : (k₀ == NameKind.free && sc.kind == .function && sc.names.lookup n == some .cell) = true
      · rw [if_pos hc] at h'
        simp only [List.lookup_cons, hx] at h'
        exact ih h'
      · rw [if_neg hc] at h'
        simp only [List.lookup_cons, hx] at h'
        exact ih h'
/-- the names of a comprehension's block: its own (with their places in N), or captured -/
structure BlkOk (N : List Str) (sc scope : Scope) (own : List (Str × Nat)) : Prop where
  kind : scope.kind = .function
  uniq : ∀ y ∈ scope.names, scope.names.lookup y.1 = some y.2
  ix : ∀ p ∈ own, N[p.2]? = some p.1
  free : ∀ y ∈ scope.names, y.2 = .free → sc.names.lookup y.1 = some .cell ∨ sc.names.lookup y.1 = some .free
  own : ∀ y ∈ scope.names, y.2 = .local ∨ y.2 = .cell → y.1 ∈ own.map (·.1) ∨ y.1 ∉ N
/-- the slots of the block's own names forgotten -/
def wipe (σ : St) : List Nat → St
  | [] => σ
  | v :: vs => (wipe σ vs).set v none
theorem wipe_length (σ : St) : ∀ vs : List Nat, (wipe σ vs).length = σ.length
  | [] => rfl
  | v :: vs => by unfold wipe; rw [List.length_set, wipe_length σ vs]
theorem wipe_some {σ : St} {i : Nat} {x : V} : ∀ {vs : List Nat}, (wipe σ vs)[i]? = some (some x) → σ[i]? = some (some x) ∧ i ∉ vs
  | [], h => ⟨h, by simp⟩
  | v :: vs, h => by
    unfold wipe at h
    by_cases hi : v = i
    · subst hi
      by_cases hv : v < (wipe σ vs).length
      · rw [List.getElem?_set_self hv] at h; cases h
      · rw [List.getElem?_eq_none (by simpa using hv)] at h; cases h
    · rw [List.getElem?_set_ne hi] at h
      obtain ⟨h1, h2⟩ := wipe_some h
      exact ⟨h1, by simp only [List.mem_cons, not_or]; exact ⟨fun e => hi e.symm, h2⟩⟩

/-- the context of a block that starts at s, its iterator's objects at fp -/
abbrev Cx.blk (X : Cx) (s : Shared) (H : Hp) (scope : Scope) (cenv : Env) (fp : List Addr) : Cx := { X with s_0 := s, H_0 := H, env := cenv, outer := X.stack, ex := fp, fn := fun x => scope.names.lookup x == some .cell, pn := [], xe := fun _ _ => False }
section
variable {X : Cx} {pins : List (Addr × Obj)} {σ : St} {H : Hp} {s : Shared}
theorem block_start {scope : Scope} {own : List (Str × Nat)} {fp : List Addr} (I : Inv X pins σ H s) (ok : BlkOk X.N X.env.scope scope own) (hN : X.N.Nodup) (hfp : ∀ b ∈ fp, FpOk X pins H b ∧ b < s.heap.objs.size) :
    Inv (X.blk s H scope (compEnvC scope (cellsFrom (s.heap.objs.size + 1) scope.names (cloFrom X.env.cells scope.names [])) s.heap.objs.size X.env) fp) [] (wipe σ (own.map (·.2))) H { s with heap := pushCells (s.heap.push { cls := .type "dict", data := .dict #[] }) scope.names } := by
  have hfree : ∀ y ∈ scope.names, y.2 = .free → ∃ c, X.env.cells.lookup y.1 = some c := fun y hy e => by
    rcases ok.free y hy e with k | k
    · exact I.ok.has _ (.inl k)
    · exact I.ok.has _ (.inr k)
  generalize hcenv : compEnvC scope (cellsFrom (s.heap.objs.size + 1) scope.names (cloFrom X.env.cells scope.names [])) s.heap.objs.size X.env = cenv
  have kp : ∀ b o, s.heap.get? b = some o → (pushCells (s.heap.push { cls := .type "dict", data := .dict #[] }) scope.names).get? b = some o := fun b o e => pushCells_keeps _ _ _ _ (Heap.get?_push_of_some _ e)
  have hL : cenv.locals = s.heap.objs.size := by rw [← hcenv]; rfl
  have hcl : cenv.cells = cellsFrom (s.heap.objs.size + 1) scope.names (cloFrom X.env.cells scope.names []) := by rw [← hcenv]; rfl
  have hsc : cenv.scope = relS scope X.env.scope := by rw [← hcenv]; rfl
  rw [← Heap.size_push s.heap { cls := .type "dict", data := .dict #[] }] at hcl
  have cm : ∀ {y c}, (y, c) ∈ cloFrom X.env.cells scope.names [] → X.env.cells.lookup y = some c ∧ c < s.heap.objs.size := fun {y c} hm => by
    rcases cloFrom_mem hm with hm | ⟨h1, rfl⟩
    · cases hm
    · obtain ⟨c, hc⟩ := hfree _ h1 rfl
      rw [hc]
      obtain ⟨w, z⟩ := I.cell _ _ hc
      exact ⟨rfl, z.lt⟩
  have mem : ∀ {y c}, cenv.cells.lookup y = some c → (X.env.cells.lookup y = some c ∧ c < s.heap.objs.size) ∨ (s.heap.objs.size + 1 ≤ c ∧ CellAt (pushCells (s.heap.push { cls := .type "dict", data := .dict #[] }) scope.names) c none) := fun {y c} e => by
    rw [hcl] at e
    rcases cells_mem (PySem.mem_of_lookup e) with hm | ⟨_, h2, h3⟩
    · exact .inl (cm hm)
    · rw [Heap.size_push] at h2; exact .inr ⟨h2, h3⟩
  have look : ∀ {y}, scope.names.lookup y = some .free → ∃ c, cenv.cells.lookup y = some c ∧ X.env.cells.lookup y = some c := fun {y} hl => by
    have hy : (y, NameKind.free) ∈ scope.names := PySem.mem_of_lookup hl
    obtain ⟨c', e'⟩ := mem_lookup (cells_acc (names := scope.names) (n := (s.heap.push { cls := .type "dict", data := .dict #[] }).objs.size) (cloFrom_has (cells := X.env.cells) (acc := []) hy))
    rw [← hcl] at e'
    refine ⟨c', e', ?_⟩
    rw [hcl] at e'
    rcases cells_mem (PySem.mem_of_lookup e') with hm | ⟨h1, _, _⟩
    · exact (cm hm).1
    · have := ok.uniq _ h1
      rw [hl] at this; cases this
  have okB : (X.blk s H scope cenv fp).Ok := by
    refine ⟨I.ok.mod, by show cenv.scope.kind = _; rw [hsc]; exact ok.kind, by show cenv.globals = _; rw [← hcenv]; exact I.ok.glob, by show cenv.builtins = _; rw [← hcenv]; exact I.ok.blt, by show s.heap.objs.size ≤ cenv.locals; rw [hL]; exact Nat.le_refl _,
      fun y z c e1 e2 => ?_, fun y hy => ?_, fun y c z e => ?_, I.ok.hd, I.ok.frames, .inl rfl, fun b hb => ⟨?_, fun y c e z => ?_⟩, I.bs, Nat.le_trans I.ok.bsz I.sz, fun b o e hb => ?_, fun b hb z => ?_, I.stack, I.stkFree⟩
    · have e1 : cenv.cells.lookup y = some c := e1
      have e2 : cenv.cells.lookup z = some c := e2
      rw [hcl] at e1 e2
      refine cells_inj (fun p hp => ?_) (fun y z c a b => I.ok.inj y z c (cm a).1 (cm b).1) (PySem.mem_of_lookup e1) (PySem.mem_of_lookup e2)
      rw [Heap.size_push]
      exact Nat.lt_succ_of_lt (cm (y := p.1) (c := p.2) hp).2
    · show ∃ c, cenv.cells.lookup y = some c
      have key : ∀ k, cenv.kindOf y = some k → (k = .cell ∨ k = .free) → ∃ c, cenv.cells.lookup y = some c := fun k hk hk' => by
        unfold Env.kindOf at hk
        rw [hsc] at hk
        obtain ⟨k', e, r⟩ := lookup_relS hk
        have : k' = .cell ∨ k' = .free := by
          rcases r with rfl | ⟨rfl, _⟩
          · exact hk'
          · exact .inr rfl
        rcases this with rfl | rfl
        · obtain ⟨c, hm⟩ := cells_has (n := (s.heap.push { cls := .type "dict", data := .dict #[] }).objs.size) (acc := cloFrom X.env.cells scope.names []) (PySem.mem_of_lookup e)
          obtain ⟨c', e'⟩ := mem_lookup hm
          exact ⟨c', by rw [hcl]; exact e'⟩
        · obtain ⟨c, h1, _⟩ := look e
          exact ⟨c, h1⟩
      rcases hy with hy | hy
      · exact key _ hy (.inl rfl)
      · exact key _ hy (.inr rfl)
    · have z : (scope.names.lookup y == some NameKind.cell) = true := z
      have z : scope.names.lookup y = some .cell := by simpa using z
      have e : cenv.cells.lookup y = some c := e
      rw [hcl] at e
      rcases cells_mem (PySem.mem_of_lookup e) with hm | ⟨_, h2, _⟩
      · rcases cloFrom_mem hm with hm | ⟨h1, _⟩
        · cases hm
        · have q := ok.uniq _ h1
          rw [z] at q; cases q
      · rw [Heap.size_push] at h2
        exact Nat.le_of_succ_le h2
    · show b ≠ cenv.locals
      rw [hL]; exact Nat.ne_of_lt (hfp b hb).2
    · have e : cenv.cells.lookup y = some c := e
      rcases mem e with ⟨h1, _⟩ | ⟨h1, _⟩
      · exact (hfp b hb).1.2.2.2.2.1 y c h1 z
      · have h2 : s.heap.objs.size + 1 ≤ b := by rw [← z]; exact h1
        exact absurd (Nat.lt_of_lt_of_le (hfp b hb).2 (Nat.le_of_succ_le h2)) (Nat.lt_irrefl _)
    · rcases (hfp b hb).1.2.2.2.1 with z | z
      · exact I.ok.noex b o e z
      · exact absurd (Nat.lt_of_lt_of_le (Heap.lt_size e) (Nat.le_trans I.ok.bsz z)) (Nat.lt_irrefl _)
    · rcases List.mem_cons.mp (I.stkSub b z) with z | z
      · exact (hfp b hb).1.2.1 z
      · exact (hfp b hb).1.2.2.1 z
  refine ⟨okB, rfl, I.bare, Un.kept kp, ⟨fun _ => none, ?_, fun i y av e1 e2 e3 => ?_⟩, fun y c e => ?_, ?_, fun y c e => ?_, fun p hp => ?_, I.hok.kept kp, by rw [wipe_length]; exact I.len⟩
  · show Heap.Ns _ cenv.locals _
    rw [hL]
    exact Heap.Ns.keeps (Heap.Ns.new ..) fun b o e => pushCells_keeps _ _ _ _ e
  · obtain ⟨e2, hne⟩ := wipe_some e2
    have hfr : scope.names.lookup y = some .free ∧ (cenv.kindOf y = some .cell ∨ cenv.kindOf y = some .free) := by
      have key : ∀ k, cenv.scope.names.lookup y = some k → k = .local ∨ k = .cell ∨ k = .free → scope.names.lookup y = some .free ∧ (cenv.kindOf y = some .cell ∨ cenv.kindOf y = some .free) := fun k hk hk' => by
        have hk0 := hk
        rw [hsc] at hk
        obtain ⟨k', e, r⟩ := lookup_relS hk
        have no : ¬ (k' = .local ∨ k' = .cell) := fun hh => by
          rcases ok.own _ (PySem.mem_of_lookup e) hh with e' | e'
          · obtain ⟨p, hp, hpy⟩ := List.mem_map.mp e'
            have e3 := ok.ix p hp
            have : p.1 = y := hpy
            rw [this] at e3
            exact hne (List.mem_map.mpr ⟨p, hp, nodup_ix hN e3 e1⟩)
          · exact e' (List.mem_of_getElem? e1)
        rcases r with rfl | ⟨rfl, rfl⟩
        · rcases hk' with rfl | rfl | rfl
          · exact absurd (.inl rfl) no
          · exact absurd (.inr rfl) no
          · exact ⟨e, .inr hk0⟩
        · exact ⟨e, .inl hk0⟩
      have e3 : Vis cenv.scope y := e3
      rcases e3 with e3 | e3 | e3
      · exact key _ e3 (.inl rfl)
      · exact key _ e3 (.inr (.inl rfl))
      · exact key _ e3 (.inr (.inr rfl))
    obtain ⟨m, hn, hl⟩ := I.loc
    have hvis : Vis X.env.scope y := (ok.free _ (PySem.mem_of_lookup hfr.1) rfl).elim (fun k => .inr (.inl k)) (fun k => .inr (.inr k))
    obtain ⟨w, r, q⟩ := hl i y av e1 e2 hvis
    refine ⟨w, r, .inr ⟨hfr.2, ?_⟩⟩
    obtain ⟨c, h1, h2⟩ := look hfr.1
    rcases q with ⟨k, _⟩ | ⟨_, c', e', z⟩
    · have k : X.env.scope.names.lookup y = some .local := k
      rcases ok.free _ (PySem.mem_of_lookup hfr.1) rfl with k' | k' <;> rw [show X.env.scope.names.lookup y = _ from k'] at k <;> cases k
    · rw [h2] at e'; cases e'
      exact ⟨c, h1, z.keeps kp⟩
  · have e : cenv.cells.lookup y = some c := e
    rcases mem e with ⟨h1, _⟩ | ⟨_, z⟩
    · obtain ⟨w, z⟩ := I.cell y c h1
      exact ⟨w, z.keeps kp⟩
    · exact ⟨_, z⟩
  · show H cenv.locals = none
    rw [hL]; exact I.hok.fresh (Nat.le_refl _)
  · have e : cenv.cells.lookup y = some c := e
    rcases mem e with ⟨h1, _⟩ | ⟨h1, _⟩
    · exact I.freeC y c h1
    · exact I.hok.fresh (Nat.le_of_succ_le h1)
  · exact absurd (show p ∈ ([] : List (Addr × Obj)) ++ [] from hp) (by simp)

/-- an item appended to a tracked list -/
theorem app_ok {E : Value → Shared → Prop} {D : Addr} {xs : List V} {y : V} {v : Value} {Q : Value → Shared → Prop} (I : Inv X pins σ H s) (hD : H D = some (.lst xs)) (hz : xs.length < sizeLine) (r : RelV y v)
    (h : ∀ s', Inv X pins σ (upd H D (.lst (xs ++ [y]))) s' → Q .none s') : wpAny (model X.prog X.w) X.A (call (.builtin "list.append") [.ref D, v]) Q E s := by
  obtain ⟨hz', its, n, ri, e⟩ := I.hok D _ hD
  have hl := ri.length
  refine append_at (hsz := by rw [List.size_toArray]; omega) e fun h' sb ho' => ?_
  refine h { s with heap := h' } (I.write (t' := s.toks) (by rw [hD]; trivial) (.inl rfl) (fun b u hb q => (sb.2 b hb).trans q) ⟨_, ho'⟩ ⟨by rw [List.length_append]; exact hz, its ++ [v], n + 1, ri.append (.cons r .nil), ?_⟩)
  rw [ho']
  simp

/-- a clause's tests -/
def PTs (X : Cx) (ifs : List Expr) (t : TT) : Prop :=
  ∀ (pins : List (Addr × Obj)) (s : Shared) (σ : St) (H : Hp) (Q : Bool → Hp → Prop), Inv X pins σ H s → t σ H Q →
    wpAny (model X.prog X.w) X.A (forIn ifs true fun c r => if r = true then do let ok ← isTrue c X.env (eval c X.env); pure (ForInStep.yield ok) else pure (ForInStep.yield r)) (TP X pins σ Q) X.xe s
def tYes : TT := fun _ H Q => Q true H
theorem pts_nil : PTs X [] tYes := fun _ _ _ H _ I h => wpAny_tests_nil ⟨H, I, h⟩
theorem pts_one {c : Expr} {t : TT} (h : PT X c t) : PTs X [c] t := fun pins s σ H Q I hw => wpAny_tests_one (h pins s σ H Q I hw)
end

theorem thnF {α : Type} {t : Sem α} {Q Q' : α → Shared → Prop} {M : Model} {A : Around} {E : Value → Shared → Prop} {s : Shared} (h : wpAny M A t Q (fun _ _ => False) s) (hQ : ∀ a s, Q a s → Q' a s) : wpAny M A t Q' E s := wpAny_mono h hQ fun _ _ z => False.elim z

/-- the loop of a list comprehension's block, the target of any form (codeAny_compLoop_tests asks a target that no tuple goes to; statement and proof follow it, PyProof/CompMap.lean:41-61, with the step letOwnedTupleGo kept) -/
theorem compLoop_any {prog : Program} {w : World} {A : Around} {R : Result → Shared → Prop} {s : Shared} {elt target iter : Expr} {ifs : List Expr} {scope : Scope} {pos : Pos} {it acc : Value} {env : Env} (I : Nat → Shared → Prop)
    (turn : ∀ n s, I n s → wpAny (model prog w) A (pyNext it) (fun r s₁ => match r with
      | none => R (.ok .next) s₁
      | some v => wpAny (model prog w) A (letOwnedTupleGo target it v) (fun _ s₁' => wpAny (model prog w) A (assign target env v) (fun _ s₂ =>
          wpAny (model prog w) A (forIn ifs true fun c r => if r = true then do let ok ← isTrue c env (eval c env); pure (ForInStep.yield ok) else pure (ForInStep.yield r)) (fun ok s₃ =>
            if ok = true then wpAny (model prog w) A (eval elt env) (fun x s₄ =>
              wpAny (model prog w) A (call (.builtin "list.append") [acc, x]) (fun _ s₅ => ∃ m, m < n ∧ I m s₅) (notedBy (model prog w) A env fun e s' => R (.error e) s') s₄) (notedBy (model prog w) A env fun e s' => R (.error e) s') s₃
            else ∃ m, m < n ∧ I m s₃) (notedBy (model prog w) A env fun e s' => R (.error e) s') s₂) (notedBy (model prog w) A env fun e s' => R (.error e) s') s₁') (notedBy (model prog w) A env fun e s' => R (.error e) s') s₁) (notedBy (model prog w) A env fun e s' => R (.error e) s') s)
    (n : Nat) (h : I n s) :
    codeAny (model prog w) A (.compLoop (.ListComp elt [⟨target, iter, ifs, 0⟩] scope pos) 0 it acc env) R s := by
  refine codeAny_loop rfl I (fun n s hI => ?_) n h
  show wpAny _ A ((compTurn (.ListComp elt [⟨target, iter, ifs, 0⟩] scope pos) 0 it acc env).onRaise (fun x => do noteFrame x env; theTreesLotGoes x)) _ _ s
  refine wpAny_noted ?_
  rw [compTurn_list]
  refine wpAny_bind (wpAny_standAt (wpAny_bind (wpAny_mono (turn n s hI) (fun r s₁ h₁ => ?_) fun _ _ h' => h')))
  cases r with
  | none => exact wpAny_pure h₁
  | some v =>
    refine wpAny_bind (wpAny_mono h₁ (fun _ s₁' h₁' => ?_) fun _ _ h' => h')
    refine wpAny_bind (wpAny_mono h₁' (fun _ s₂ h₂ => wpAny_bind (wpAny_mono h₂ (fun ok s₃ h₃ => ?_) fun _ _ h' => h')) fun _ _ h' => h')
    cases ok with
    | false => exact wpAny_pure ⟨rfl, h₃⟩
    | true =>
      exact wpAny_bind (wpAny_bind (wpAny_mono h₃ (fun x s₄ h₄ => wpAny_bind (wpAny_mono h₄ (fun _ s₅ h₅ => wpAny_pure (wpAny_pure ⟨rfl, h₅⟩)) fun _ _ h' => h')) fun _ _ h' => h'))

section
variable {X : Cx}
/-- [elt for target in iter if ..]: D the new list; W by the turn and a measure, Nx what a turn is to reach -/
def tLc (wi : TI) (g : TG) (tt : TT) (te : TE) (vs : List Nat) : TE := fun σ H Q => wi σ H fun J H1 => ∀ D, H1 D = none → ∃ W : Nat → Nat → Hp → Prop, (∃ m, W 0 m (upd H1 D (.lst []))) ∧ ∀ i m H, W i m H →
  (J.stop i H ∧ Q (.ref D) H) ∨ (J.go i H ∧ ∃ Nx : Hp → Prop, (∀ H', Nx H' → ∃ m', m' < m ∧ W (i + 1) m' H') ∧ ∀ x H', J.yld i H x H' → g x (wipe σ vs) H' fun σ2 H2 => wipe σ2 vs = wipe σ vs ∧ tt σ2 H2 fun b H3 =>
    if b = true then te σ2 H3 fun y H4 => ∃ acc, H4 D = some (.lst acc) ∧ acc.length < sizeLine ∧ Nx (upd H4 D (.lst (acc ++ [y]))) else Nx H3)
theorem lc_core {pins : List (Addr × Obj)} {s : Shared} {σ : St} {H : Hp} {Q : VK} {elt tg iter : Expr} {ifs : List Expr} {scope : Scope} {own : List (Str × Nat)} {pos pos' : Pos} {wi : TI} {g : TG} {tt : TT} {te : TE} {use : Option (Value → Sem Unit)} {Qf : Value → Shared → Prop}
    (hc : X.calm = true) (hN : X.N.Nodup) (I : Inv X pins σ H s) (hi : PI X tg iter wi) (ok : BlkOk X.N X.env.scope scope own)
    (hg : ∀ (s : Shared) (H : Hp) (C : Addr) (cl : List (Str × Addr)) (fp : List Addr), PG (X.blk s H scope (compEnvC scope cl C X.env) fp) tg g) (ht : ∀ (s : Shared) (H : Hp) (C : Addr) (cl : List (Str × Addr)) (fp : List Addr), PTs (X.blk s H scope (compEnvC scope cl C X.env) fp) ifs tt)
    (he : ∀ (s : Shared) (H : Hp) (C : Addr) (cl : List (Str × Addr)) (fp : List Addr), PE (X.blk s H scope (compEnvC scope cl C X.env) fp) elt te) (hs : ∀ x, foldedSetIterable iter X.env x = pure x)
    (h : tLc wi g tt te (own.map (·.2)) σ H Q)
    (hRR : ∀ D C s' m H', Inv X pins σ H' s' → Q (.ref D) H' → s'.heap.Ns C m → FpOk X pins H' C → compPost (model X.prog X.w) X.A X.xe use Qf (.ref D) C (.ok .next) s') :
    wpAny (model X.prog X.w) X.A (comprehension (.ListComp elt [⟨tg, iter, ifs, 0⟩] scope pos) scope X.env pos' (newList []) false (eval iter X.env) use) Qf X.xe s := by
  have hfree : ∀ y ∈ scope.names, y.2 = .free → ∃ c, X.env.cells.lookup y.1 = some c := fun y hy e => by
    rcases ok.free y hy e with k | k
    · exact I.ok.has _ (.inl k)
    · exact I.ok.has _ (.inr k)
  refine wpAny_comprehension_free (use := use) rfl hs (closure_ok hfree) ok.kind (fun y hy e => by rw [ok.uniq y hy, e])
    (thn (hi pins s σ H _ I h) fun xv s1 hx => thn hx fun itv s2 h2 => ?_)
  obtain ⟨it, fp, tn, J, H2, e, I2, T, st2, f2, q⟩ := h2
  subst e
  refine wpAny_newObj_type (newEnv_comp ?_) (by show 0 ≤ sizeLine; decide)
  generalize hD : s2.heap.objs.size = D
  have hDn : H2 D = none := I2.hok.fresh (Nat.le_of_eq hD)
  obtain ⟨W, ⟨m0, w0⟩, turn⟩ := q D hDn
  -- the new list
  generalize hs3 : ({ s2 with heap := s2.heap.push { cls := .type "list", data := .seq ([] : List Value).toArray } } : Shared) = s3
  have I3 : Inv X pins σ (upd H2 D (.lst [])) s3 := by
    rw [← hs3]
    refine I2.laid (t' := s2.toks) (fun b o e => Heap.get?_push_of_some _ e) (Nat.le_of_eq hD) ⟨Nat.zero_le _, [], 0, .nil, ?_⟩
    rw [← hD]
    exact Heap.get?_push_size _ rfl
  have h3 : s3.heap = s2.heap.push { cls := .type "list", data := .seq ([] : List Value).toArray } := by rw [← hs3]
  have sz : ∀ b ∈ fp, b < s2.heap.objs.size := fun b hb => by
    obtain ⟨o, e, _⟩ := T.obj _ _ st2 b hb
    exact Heap.lt_size e
  have f3 : ∀ b ∈ fp, FpOk X pins (upd H2 D (.lst [])) b ∧ b < s3.heap.objs.size := fun b hb => by
    have hlt := sz b hb
    refine ⟨⟨?_, (f2 b hb).2⟩, by rw [h3, Heap.size_push]; exact Nat.lt_succ_of_lt hlt⟩
    rw [upd_ne (by rw [← hD]; exact Nat.ne_of_lt hlt)]
    exact (f2 b hb).1
  have st3 : tn 0 s3.heap := T.keep _ _ _ st2 fun b _ o e => by rw [h3]; exact Heap.get?_push_of_some _ e
  have I4 := block_start I3 ok hN f3
  have pg := hg s3 (upd H2 D (.lst [])) s3.heap.objs.size (cellsFrom (s3.heap.objs.size + 1) scope.names (cloFrom X.env.cells scope.names [])) fp
  have pt := ht s3 (upd H2 D (.lst [])) s3.heap.objs.size (cellsFrom (s3.heap.objs.size + 1) scope.names (cloFrom X.env.cells scope.names [])) fp
  have pe := he s3 (upd H2 D (.lst [])) s3.heap.objs.size (cellsFrom (s3.heap.objs.size + 1) scope.names (cloFrom X.env.cells scope.names [])) fp
  show codeAny _ _ (.compStart (.ListComp elt [⟨tg, iter, ifs, 0⟩] scope pos) 0 (.ref it) (.ref D) (compEnvC scope (cellsFrom (s3.heap.objs.size + 1) scope.names (cloFrom X.env.cells scope.names [])) s3.heap.objs.size X.env)) (compPost (model X.prog X.w) X.A X.xe use Qf (.ref D) s3.heap.objs.size) { s3 with heap := pushCells (s3.heap.push { cls := .type "dict", data := .dict #[] }) scope.names }
  have nfp : ∀ b ∈ fp, (upd H2 D (.lst [])) b = none := fun b hb => (f3 b hb).1.1
  generalize hce : compEnvC scope (cellsFrom (s3.heap.objs.size + 1) scope.names (cloFrom X.env.cells scope.names [])) s3.heap.objs.size X.env = ce at I4 pg pt pe ⊢
  have cL : ce.locals = s3.heap.objs.size := by subst hce; rfl
  generalize hH3 : upd H2 D (.lst []) = H3 at I3 I4 pg pt pe w0 nfp f3
  generalize hs4 : ({ s3 with heap := pushCells (s3.heap.push { cls := .type "dict", data := .dict #[] }) scope.names } : Shared) = s4 at I4 ⊢
  have st4 : tn 0 s4.heap := T.keep _ _ _ st3 fun b _ o e => by rw [← hs4]; exact pushCells_keeps _ _ _ _ (Heap.get?_push_of_some _ e)
  have stat : ∀ {σ' : St} {H' : Hp} {s' : Shared}, Inv (X.blk s3 H3 scope ce fp) [] σ' H' s' → (∀ b ∈ fp, H' b = none) → ∀ b ∈ fp, FpOk (X.blk s3 H3 scope ce fp) [] H' b := fun {σ' H' s'} I' hn b hb =>
    ⟨hn b hb, (I'.ok.exf b hb).1, I'.ok.exfs b hb, .inl hb, fun x c e => (I'.ok.exf b hb).2 x c e, fun p hp => absurd (show p ∈ ([] : List (Addr × Obj)) ++ [] from hp) (by simp)⟩
  have loop : codeAny (model X.prog X.w) X.A (.compLoop (.ListComp elt [⟨tg, iter, ifs, 0⟩] scope pos) 0 (.ref it) (.ref D) ce) (compPost (model X.prog X.w) X.A X.xe use Qf (.ref D) s3.heap.objs.size) s4 := by
    refine compLoop_any (fun n s' => ∃ i H', Inv (X.blk s3 H3 scope ce fp) [] (wipe σ (own.map (·.2))) H' s' ∧ tn i s'.heap ∧ (∀ b ∈ fp, H' b = none) ∧ W i n H') ?_ m0 ⟨0, H3, I4, st4, nfp, w0⟩
    rintro n s5 ⟨i, H5, I5, st5, n5, w5⟩
    rcases turn i n H5 w5 with ⟨stop, qq⟩ | ⟨go, Nx, hNx, step⟩
    · have td := T.done (X.blk s3 H3 scope ce fp) rfl rfl rfl hc i [] s5 _ H5 (fun _ _ => False) I5 (stat I5 n5) st5 stop
      refine thnF td fun r s6 ⟨hr, I6⟩ => ?_
      subst hr
      -- back in the def's context
      have I7 : Inv X pins σ H5 s6 := I3.call' (ch := fp) I6.os I6.base I6.hok I6.bare fun b hb => ⟨(f3 b hb).1.2.2.2.1, (f3 b hb).1.2.1, (f3 b hb).1.2.2.2.2.1, (f3 b hb).1.2.2.2.2.2⟩
      have nC : H5 s3.heap.objs.size = none := by
        have z : H5 ce.locals = none := I6.free
        rw [cL] at z
        exact z
      obtain ⟨m, hn, _⟩ := I6.loc
      have hn : s6.heap.Ns ce.locals m := hn
      rw [cL] at hn
      exact hRR D s3.heap.objs.size s6 m H5 I7 qq hn (I3.fpOk (Nat.le_refl _) nC)
    · have ti := T.item (X.blk s3 H3 scope ce fp) rfl rfl rfl hc i [] s5 _ H5 (fun _ _ => False) I5 (stat I5 n5) st5 go
      refine thnF ti fun r s6 ⟨u, hr, h6⟩ => ?_
      subst hr
      refine thnF h6 fun _ s7 ⟨x, H7, I7, r7, y7, st7, n7⟩ => ?_
      have I7' := I7.pinned (stat I7 n7) (T.obj _ _ st7)
      refine thnF (pg _ s7 _ H7 x u _ I7' r7 (step x H7 y7)) fun _ s8 ⟨σ8, H8, I8, hw8, q8⟩ => ?_
      refine thnF (pt _ s8 σ8 H8 _ I8 q8) fun b s9 ⟨H9, I9, q9⟩ => ?_
      -- the turn's end
      have fin : ∀ {s' : Shared} {H' : Hp}, Inv (X.blk s3 H3 scope ce fp) ([] ++ pinsAt fp s7.heap) σ8 H' s' → Nx H' → ∃ m, m < n ∧ ∃ i H', Inv (X.blk s3 H3 scope ce fp) [] (wipe σ (own.map (·.2))) H' s' ∧ tn i s'.heap ∧ (∀ b ∈ fp, H' b = none) ∧ W i m H' := fun {s' H'} I' nx => by
        obtain ⟨m', hm, w'⟩ := hNx H' nx
        have pin' : ∀ b ∈ fp, ∀ o, s7.heap.get? b = some o → s'.heap.get? b = some o ∧ H' b = none := fun b hb o e =>
          let z := I'.pin (b, o) (List.mem_append_right _ (List.mem_append_right _ (mem_pinsAt hb e)))
          ⟨z.1, z.2.1⟩
        have hl : (wipe σ (own.map (·.2))).length = σ8.length := by rw [← hw8, wipe_length]
        refine ⟨m', hm, i + 1, H', (I'.unpinned (pins := [])).weak hl (fun j v e => ?_), T.keep _ _ _ st7 fun b hb o e => (pin' b hb o e).1, fun b hb => ?_, w'⟩
        · rw [← hw8] at e
          exact (wipe_some e).1
        · obtain ⟨o, e, _⟩ := T.obj _ _ st7 b hb
          exact (pin' b hb o e).2
      cases b with
      | false =>
        simp only [Bool.false_eq_true, if_false] at q9 ⊢
        exact fin I9 q9
      | true =>
        simp only [if_true] at q9 ⊢
        refine thnF (pe _ s9 σ8 H9 _ I9 q9) fun z s10 ⟨yv, H10, I10, r10, acc, hD10, hz10, nx⟩ => ?_
        exact app_ok (X := X.blk s3 H3 scope ce fp) I10 hD10 hz10 r10 fun s11 I11 => fin I11 nx
  exact codeAny_compStart_list loop (T.self X.A 0 _ _ _ st4 loop)
/-- as a value -/
theorem pe_lc {elt tg iter : Expr} {ifs : List Expr} {scope : Scope} {own : List (Str × Nat)} {pos : Pos} {wi : TI} {g : TG} {tt : TT} {te : TE} (hc : X.calm = true) (hN : X.N.Nodup) (hi : PI X tg iter wi) (ok : BlkOk X.N X.env.scope scope own)
    (hg : ∀ (s : Shared) (H : Hp) (C : Addr) (cl : List (Str × Addr)) (fp : List Addr), PG (X.blk s H scope (compEnvC scope cl C X.env) fp) tg g) (ht : ∀ (s : Shared) (H : Hp) (C : Addr) (cl : List (Str × Addr)) (fp : List Addr), PTs (X.blk s H scope (compEnvC scope cl C X.env) fp) ifs tt)
    (he : ∀ (s : Shared) (H : Hp) (C : Addr) (cl : List (Str × Addr)) (fp : List Addr), PE (X.blk s H scope (compEnvC scope cl C X.env) fp) elt te) (hs : ∀ x, foldedSetIterable iter X.env x = pure x := by intro _; rfl) :
    PE X (.ListComp elt [⟨tg, iter, ifs, 0⟩] scope pos) (tLc wi g tt te (own.map (·.2))) := by
  intro pins s σ H Q I h
  rw [eval_ListComp]
  refine lc_core hc hN I hi ok hg ht he hs h fun D C s' m H' I' q hn f => ⟨m, hn, fun h'' sb => ?_⟩
  obtain ⟨f0, f1, f2, f3, f4, f5⟩ := f
  exact ⟨.ref D, H', I'.turned (t' := s'.toks) (fun b o hb e => (sb.2 b hb).trans e) f0 f1 f3 f4 f5, rfl, q⟩
/-- name = [..] on one line, the name a local -/
theorem ps_setLc {i : Nat} {y : Str} {py : Pos} {elt tg iter : Expr} {ifs : List Expr} {scope : Scope} {own : List (Str × Nat)} {pos spos : Pos} {wi : TI} {g : TG} {tt : TT} {te : TE} (hc : X.calm = true) (hN : X.N.Nodup) (hy : X.N[i]? = some y) (hyl : X.env.scope.names.lookup y = some .local)
    (hsw : swapsWith (.ListComp elt [⟨tg, iter, ifs, 0⟩] scope pos) (some (.Name y py)) spos.line X.env = pure true) (hi : PI X tg iter wi) (ok : BlkOk X.N X.env.scope scope own)
    (hg : ∀ (s : Shared) (H : Hp) (C : Addr) (cl : List (Str × Addr)) (fp : List Addr), PG (X.blk s H scope (compEnvC scope cl C X.env) fp) tg g) (ht : ∀ (s : Shared) (H : Hp) (C : Addr) (cl : List (Str × Addr)) (fp : List Addr), PTs (X.blk s H scope (compEnvC scope cl C X.env) fp) ifs tt)
    (he : ∀ (s : Shared) (H : Hp) (C : Addr) (cl : List (Str × Addr)) (fp : List Addr), PE (X.blk s H scope (compEnvC scope cl C X.env) fp) elt te) (hs : ∀ x, foldedSetIterable iter X.env x = pure x := by intro _; rfl) :
    PS X (.Assign [.Name y py] (.ListComp elt [⟨tg, iter, ifs, 0⟩] scope pos) spos) (tAsg (tLc wi g tt te (own.map (·.2))) (gName i)) := by
  intro pins s σ H D I h
  rw [exec_Assign_Name_used _ _ _ _ hsw]
  refine wpAny_bind (wpAny_standAt (wpAny_bind ?_))
  show wpAny _ X.A (do let _ ← comprehension (.ListComp elt [⟨tg, iter, ifs, 0⟩] scope pos) scope X.env (firstIterPos [⟨tg, iter, ifs, 0⟩] pos) (newList []) false (eval iter X.env) (some (assign (.Name y py) X.env))) _ _ s
  have h : tLc wi g tt te (own.map (·.2)) σ H (fun x H1 => gName i x σ H1 D.nx) := h
  refine wpAny_bind (thn (lc_core (Qf := fun _ s' => SP X pins D .next s') hc hN I hi ok hg ht he hs h fun L C s' m H' I' q hn f => ?_) fun _ s' hq => wpAny_pure (wpAny_pure hq))
  show wpAny _ _ (assign (.Name y py) X.env (.ref L)) _ _ _
  refine wpAny_assign_Name (store_ok2 (v := V.ref L) I' hN hy (.inl hyl) rfl (fun s2 I2 ⟨a, sb, ha⟩ => ?_) (.inr hyl))
  obtain ⟨f0, f1, f2, f3, f4, f5⟩ := f
  have haC : C ≠ a := by
    rcases ha with z | z
    · rw [z]; exact f1
    · exact fun e => f4 y a z e.symm
  refine ⟨m, hn.sameBut sb haC, fun h3 sb3 => ?_⟩
  exact ⟨_, H', I2.turned (t' := s2.toks) (fun b o hb e => (sb3.2 b hb).trans e) f0 f1 f3 f4 f5, q⟩
theorem sw_true {elt : Expr} {gs : List Comprehension} {scope : Scope} {pos py : Pos} {y : Str} {l : Nat} {env : Env} (hk : env.scope.kind = .function) (hy : env.scope.names.lookup y = some .local) (hl : (py.line == pos.line) = true)
    (ha : (scope.names.any fun (n, k) => n == y && (k == .local || k == .cell)) = false) : swapsWith (.ListComp elt gs scope pos) (some (.Name y py)) l env = pure true := by
  have ky : env.kindOf y = some .local := hy
  have hb : env.blockKind = .function := by unfold Env.blockKind; rw [hk]; rfl
  unfold swapsWith
  simp only [hb, ky, ha, Expr.pos, hl]
  rfl
end

/-! ### the forms one uses -/
/-- over a range: Pv by the turn and the heap (the new list at D within) -/
theorem lc_range {lo : Int} {n : Nat} {g : TG} {tt : TT} {te : TE} {vs : List Nat} {σ : St} {H1 : Hp} {D : Addr} {Qd : Hp → Prop} (Pv : Nat → Hp → Prop) (h0 : Pv 0 (upd H1 D (.lst [])))
    (hs : ∀ i H, i < n → Pv i H → g (.int (lo + i)) (wipe σ vs) H fun σ2 H2 => wipe σ2 vs = wipe σ vs ∧ tt σ2 H2 fun b H3 =>
      if b = true then te σ2 H3 fun y H4 => ∃ acc, H4 D = some (.lst acc) ∧ acc.length < sizeLine ∧ Pv (i + 1) (upd H4 D (.lst (acc ++ [y]))) else Pv (i + 1) H3) (hd : ∀ H, Pv n H → Qd H) :
    ∃ W : Nat → Nat → Hp → Prop, (∃ m, W 0 m (upd H1 D (.lst []))) ∧ ∀ i m H, W i m H →
      ((Itr lo n).stop i H ∧ Qd H) ∨ ((Itr lo n).go i H ∧ ∃ Nx : Hp → Prop, (∀ H', Nx H' → ∃ m', m' < m ∧ W (i + 1) m' H') ∧ ∀ x H', (Itr lo n).yld i H x H' → g x (wipe σ vs) H' fun σ2 H2 => wipe σ2 vs = wipe σ vs ∧ tt σ2 H2 fun b H3 =>
        if b = true then te σ2 H3 fun y H4 => ∃ acc, H4 D = some (.lst acc) ∧ acc.length < sizeLine ∧ Nx (upd H4 D (.lst (acc ++ [y]))) else Nx H3) := by
  refine ⟨fun i m H => m = n - i ∧ i ≤ n ∧ Pv i H, ⟨n, by simp, Nat.zero_le _, h0⟩, ?_⟩
  rintro i m H ⟨rfl, hi, p⟩
  by_cases hlt : i < n
  · refine .inr ⟨hlt, Pv (i + 1), fun H' p' => ⟨n - (i + 1), by omega, rfl, hlt, p'⟩, fun x H' y => ?_⟩
    obtain ⟨e, y⟩ := y
    subst e y
    exact hs i _ hlt p
  · have e : i = n := by omega
    subst e
    exact .inl ⟨Nat.le_refl _, hd H p⟩
/-- over a list that the block leaves as it is -/
theorem lc_list {K : PySem.W.Frag} {a : Addr} {xs : List V} {g : TG} {tt : TT} {te : TE} {vs : List Nat} {σ : St} {H1 : Hp} {D : Addr} {Qd : Hp → Prop} (Pv : Nat → Hp → Prop) (h0 : Pv 0 (upd H1 D (.lst []))) (hl : ∀ i H, i ≤ xs.length → Pv i H → SqL K H a xs)
    (hs : ∀ i x H, xs[i]? = some x → Pv i H → g x (wipe σ vs) H fun σ2 H2 => wipe σ2 vs = wipe σ vs ∧ tt σ2 H2 fun b H3 =>
      if b = true then te σ2 H3 fun y H4 => ∃ acc, H4 D = some (.lst acc) ∧ acc.length < sizeLine ∧ Pv (i + 1) (upd H4 D (.lst (acc ++ [y]))) else Pv (i + 1) H3) (hd : ∀ H, Pv xs.length H → Qd H) :
    ∃ W : Nat → Nat → Hp → Prop, (∃ m, W 0 m (upd H1 D (.lst []))) ∧ ∀ i m H, W i m H →
      ((Itl K a).stop i H ∧ Qd H) ∨ ((Itl K a).go i H ∧ ∃ Nx : Hp → Prop, (∀ H', Nx H' → ∃ m', m' < m ∧ W (i + 1) m' H') ∧ ∀ x H', (Itl K a).yld i H x H' → g x (wipe σ vs) H' fun σ2 H2 => wipe σ2 vs = wipe σ vs ∧ tt σ2 H2 fun b H3 =>
        if b = true then te σ2 H3 fun y H4 => ∃ acc, H4 D = some (.lst acc) ∧ acc.length < sizeLine ∧ Nx (upd H4 D (.lst (acc ++ [y]))) else Nx H3) := by
  refine ⟨fun i m H => m = xs.length - i ∧ i ≤ xs.length ∧ Pv i H, ⟨xs.length, by simp, Nat.zero_le _, h0⟩, ?_⟩
  rintro i m H ⟨rfl, hi, p⟩
  have q := hl i H hi p
  by_cases hlt : i < xs.length
  · refine .inr ⟨⟨xs, xs[i], q, by simp [hlt]⟩, Pv (i + 1), fun H' p' => ⟨xs.length - (i + 1), by omega, rfl, hlt, p'⟩, fun x H' y => ?_⟩
    obtain ⟨e, y⟩ := y
    subst e
    exact hs i x _ (y xs q) p
  · have e : i = xs.length := by omega
    subst e
    exact .inl ⟨⟨xs, q, Nat.le_refl _⟩, hd H p⟩
def blkC (N : List Str) (sc scope : Scope) (own : List (Str × Nat)) : Bool :=
  (match scope.kind with | .function => true | _ => false) && (scope.names.all fun y => decide (scope.names.lookup y.1 = some y.2)) && (own.all fun p => decide (N[p.2]? = some p.1)) &&
    (scope.names.all fun y => match y.2 with
      | .free => (match sc.names.lookup y.1 with | some .cell => true | some .free => true | _ => false)
      | .local => decide (y.1 ∈ own.map (·.1)) || decide (y.1 ∉ N)
      | .cell => decide (y.1 ∈ own.map (·.1)) || decide (y.1 ∉ N)
      | _ => true)
theorem blkOk_by {N : List Str} {sc scope : Scope} {own : List (Str × Nat)} (h : blkC N sc scope own = true) : BlkOk N sc scope own := by
  unfold blkC at h
  simp only [Bool.and_eq_true, List.all_eq_true, decide_eq_true_eq] at h
  obtain ⟨⟨⟨h1, h2⟩, h3⟩, h4⟩ := h
  refine ⟨?_, h2, h3, fun y hy e => ?_, fun y hy e => ?_⟩
  · split at h1
    · assumption
    · cases h1
  · have q := h4 y hy
    simp only [e] at q
    split at q <;> first | exact .inl (by assumption) | exact .inr (by assumption) | cases q
  · have q := h4 y hy
    rcases e with e | e <;> (simp only [e, Bool.or_eq_true, decide_eq_true_eq] at q; exact q)
end L2

namespace L2
open PySem PySem.Spec PyProof.Rows

section
variable {prog : Program} {w : World} {A : Around} {R : Result → Shared → Prop} {s : Shared} {elt t0 i0 t1 i1 : Expr} {ifs0 ifs1 : List Expr} {scope : Scope} {pos : Pos} {it acc : Value} {env : Env}
end

section
variable {X : Cx}
end
end L2

namespace L2
open PySem PySem.Spec PyProof.Rows

/-! ### lists of pairs as tables -/
section
variable {κ : Type} [DecidableEq κ]
def valV (kvs : List (κ × V)) (k : κ) : Option V := (kvs.find? fun kv => decide (kv.1 = k)).map (·.2)
/-- in its place, or at the end -/
def putK (kvs : List (κ × V)) (k : κ) (v : V) : List (κ × V) :=
  if (kvs.any fun kv => decide (kv.1 = k)) = true then kvs.map (fun kv => if kv.1 = k then (kv.1, v) else kv) else kvs ++ [(k, v)]
def dropK (kvs : List (κ × V)) (k : κ) : List (κ × V) := kvs.filter fun kv => decide (kv.1 ≠ k)

theorem valV_pos {p : κ × V} {r : List (κ × V)} {k : κ} (e : p.1 = k) : valV (p :: r) k = some p.2 := by simp [valV, List.find?_cons, e]
theorem valV_neg {p : κ × V} {r : List (κ × V)} {k : κ} (e : ¬ p.1 = k) : valV (p :: r) k = valV r k := by simp [valV, List.find?_cons, e]
theorem valV_any (k : κ) : ∀ kvs : List (κ × V), (kvs.any fun kv => decide (kv.1 = k)) = (valV kvs k).isSome
  | [] => rfl
  | p :: r => by
    rw [List.any_cons]
    by_cases e : p.1 = k
    · simp only [valV_pos e, decide_eq_true e, Bool.true_or, Option.isSome_some]
    · rw [valV_neg e, decide_eq_false e, Bool.false_or]; exact valV_any k r
theorem valV_map (k j : κ) (y : V) : ∀ kvs : List (κ × V), valV (kvs.map fun kv => if kv.1 = k then (kv.1, y) else kv) j = (valV kvs j).map fun x => if j = k then y else x
  | [] => rfl
  | p :: r => by
    have ih := valV_map k j y r
    rw [List.map_cons]
    by_cases h : p.1 = k
    · rw [if_pos h]
      by_cases e : p.1 = j
      · rw [valV_pos (p := (p.1, y)) e, valV_pos e, Option.map_some, if_pos (e.symm.trans h)]
      · rw [valV_neg (p := (p.1, y)) e, valV_neg e, ih]
    · rw [if_neg h]
      by_cases e : p.1 = j
      · rw [valV_pos (p := p) e, valV_pos e, Option.map_some, if_neg (fun z => h (e.trans z))]
      · rw [valV_neg (p := p) e, valV_neg e, ih]
theorem valV_snoc (k j : κ) (y : V) : ∀ kvs : List (κ × V), valV kvs k = none → valV (kvs ++ [(k, y)]) j = if j = k then some y else valV kvs j
  | [], _ => by
    by_cases e : k = j
    · rw [if_pos e.symm]; exact valV_pos (p := (k, y)) e
    · rw [if_neg (fun z => e z.symm)]; exact valV_neg (p := (k, y)) e
  | p :: r, hn => by
    rw [List.cons_append]
    have hk : ¬ p.1 = k := fun z => by rw [valV_pos z] at hn; cases hn
    rw [valV_neg hk] at hn
    have ih := valV_snoc k j y r hn
    by_cases e : p.1 = j
    · rw [valV_pos e, valV_pos e, if_neg (fun z => hk (e.trans z))]
    · rw [valV_neg e, valV_neg e, ih]
theorem valV_put (kvs : List (κ × V)) (k j : κ) (y : V) : valV (putK kvs k y) j = if j = k then some y else valV kvs j := by
  unfold putK
  by_cases a : (kvs.any fun kv => decide (kv.1 = k)) = true
  · rw [if_pos a, valV_map]
    rw [valV_any] at a
    by_cases e : j = k
    · obtain ⟨x, hx⟩ := Option.isSome_iff_exists.mp a
      rw [if_pos e, e, hx, Option.map_some, if_pos rfl]
    · rw [if_neg e]
      cases valV kvs j with
      | none => rfl
      | some x => rw [Option.map_some, if_neg e]
  · rw [if_neg a]
    refine valV_snoc k j y kvs ?_
    rw [valV_any] at a
    cases q : valV kvs k with
    | none => rfl
    | some x => rw [q] at a; exact (a rfl).elim
theorem RelO.isSome_eq {o : Option V} {u : Option Value} (r : RelO o u) : o.isSome = u.isSome := by
  cases o with
  | none => cases u with
    | none => rfl
    | some _ => exact (show False from r).elim
  | some _ => cases u with
    | none => exact (show False from r).elim
    | some _ => rfl
theorem RelO.getD {o : Option V} {u : Option Value} {d : V} {d' : Value} (r : RelO o u) (rd : RelV d d') : RelV (o.getD d) (u.getD d') := by
  cases o with
  | none => cases u with
    | none => exact rd
    | some _ => exact (show False from r).elim
  | some _ => cases u with
    | none => exact (show False from r).elim
    | some _ => exact r

/-- raw tables of the same keys -/
theorem KV.val {kvs : List (κ × V)} {vs : List (κ × Value)} (r : KV kvs vs) (k : κ) : RelO (valV kvs k) (valueAt vs k) := by
  unfold KV at r
  induction r with
  | nil => exact True.intro
  | @cons p q ps qs h t ih =>
    obtain ⟨h1, h2⟩ := h
    by_cases e : p.1 = k
    · have e' : q.1 = k := h1.symm.trans e
      have b : valueAt (q :: qs) k = some q.2 := by simp [valueAt, List.find?_cons, e']
      rw [valV_pos e, b]; exact h2
    · have e' : ¬ q.1 = k := fun z => e (h1.trans z)
      have b : valueAt (q :: qs) k = valueAt qs k := by simp [valueAt, List.find?_cons, e']
      rw [valV_neg e, b]; exact ih
theorem KV.any {kvs : List (κ × V)} {vs : List (κ × Value)} (r : KV kvs vs) (k : κ) : (kvs.any fun kv => decide (kv.1 = k)) = vs.any fun kv => decide (kv.1 = k) := by
  unfold KV at r
  induction r with
  | nil => rfl
  | cons h t ih => rw [List.any_cons, List.any_cons, ih, h.1]
theorem KV.repl {kvs : List (κ × V)} {vs : List (κ × Value)} (r : KV kvs vs) (k : κ) {y : V} {u : Value} (ry : RelV y u) :
    KV (kvs.map fun kv => if kv.1 = k then (kv.1, y) else kv) (vs.map fun kv => if kv.1 = k then (kv.1, u) else kv) := by
  unfold KV at r ⊢
  induction r with
  | nil => exact .nil
  | @cons p q ps qs h t ih =>
    rw [List.map_cons, List.map_cons]
    refine .cons ?_ ih
    obtain ⟨h1, h2⟩ := h
    by_cases e : p.1 = k
    · rw [if_pos e, if_pos (h1.symm.trans e)]; exact ⟨h1, ry⟩
    · rw [if_neg e, if_neg (fun z => e (h1.trans z))]; exact ⟨h1, h2⟩
theorem KV.put {kvs : List (κ × V)} {vs : List (κ × Value)} (r : KV kvs vs) (k : κ) {y : V} {u : Value} (ry : RelV y u) : KV (putK kvs k y) (stored vs k u) := by
  unfold putK stored
  rw [r.any k]
  by_cases e : (vs.any fun kv => decide (kv.1 = k)) = true
  · rw [if_pos e, if_pos e]; exact r.repl k ry
  · rw [if_neg e, if_neg e]; exact Paired.snoc r ⟨rfl, ry⟩
theorem KV.drop {kvs : List (κ × V)} {vs : List (κ × Value)} (r : KV kvs vs) (k : κ) : KV (dropK kvs k) (without vs k) := by
  unfold KV at r ⊢
  unfold dropK without
  induction r with
  | nil => exact .nil
  | @cons p q ps qs h t ih =>
    obtain ⟨h1, h2⟩ := h
    rw [List.filter_cons, List.filter_cons]
    by_cases e : p.1 = k
    · have a : ¬ decide (p.1 ≠ k) = true := by simp [e]
      have b : ¬ decide (q.1 ≠ k) = true := by simp [h1.symm.trans e]
      rw [if_neg a, if_neg b]; exact ih
    · have e' : ¬ q.1 = k := fun z => e (h1.trans z)
      have a : decide (p.1 ≠ k) = true := by simp [e]
      have b : decide (q.1 ≠ k) = true := by simp [e']
      rw [if_pos a, if_pos b]; exact .cons ⟨h1, h2⟩ ih
theorem KV.keys {kvs : List (κ × V)} {vs : List (κ × Value)} (r : KV kvs vs) : kvs.map (·.1) = vs.map (·.1) := by
  unfold KV at r
  induction r with
  | nil => rfl
  | cons h t ih => rw [List.map_cons, List.map_cons, ih, h.1]
theorem KV.length {kvs : List (κ × V)} {vs : List (κ × Value)} (r : KV kvs vs) : kvs.length = vs.length := Paired.length r
end


/-! ### a tracked dict, its keys ints and texts or tuples of these -/
/-- raw entries of a dict with tuple keys -/
abbrev KT (H : Hp) : List (List Key × V) → List (List Key × Addr × Value) → Prop := Paired fun p q => p.1 = q.1 ∧ H q.2.1 = some (.tup (p.1.map kV)) ∧ RelV p.2 q.2.2
theorem KT.val {H : Hp} {kvs : List (List Key × V)} {xs : List (List Key × Addr × Value)} (r : KT H kvs xs) (k : List Key) : RelO (valV kvs k) ((atKey xs k).map (·.2)) := by
  induction r with
  | nil => exact True.intro
  | @cons p q ps qs h t ih =>
    obtain ⟨h1, _, h2⟩ := h
    by_cases e : p.1 = k
    · have e' : q.1 = k := h1.symm.trans e
      have b : atKey (q :: qs) k = some q.2 := by simp [atKey, List.find?_cons, e']
      rw [valV_pos e, b]; exact h2
    · have e' : ¬ q.1 = k := fun z => e (h1.trans z)
      have b : atKey (q :: qs) k = atKey qs k := by simp [atKey, List.find?_cons, e']
      rw [valV_neg e, b]; exact ih
theorem KT.repl {H : Hp} {kvs : List (List Key × V)} {xs : List (List Key × Addr × Value)} (r : KT H kvs xs) (k : List Key) {y : V} {u : Value} (ry : RelV y u) :
    KT H (kvs.map fun kv => if kv.1 = k then (kv.1, y) else kv) (xs.map (putAt k u)) := by
  induction r with
  | nil => exact .nil
  | @cons p q ps qs h t ih =>
    rw [List.map_cons, List.map_cons]
    refine .cons ?_ ih
    obtain ⟨h1, h2, h3⟩ := h
    unfold putAt
    by_cases e : p.1 = k
    · rw [if_pos e, if_pos (h1.symm.trans e)]; exact ⟨h1, h2, ry⟩
    · rw [if_neg e, if_neg (fun z => e (h1.trans z))]; exact ⟨h1, h2, h3⟩
theorem KT.put {H : Hp} {kvs : List (List Key × V)} {xs : List (List Key × Addr × Value)} (r : KT H kvs xs) (k : List Key) {b : Addr} {y : V} {u : Value} (hb : H b = some (.tup (k.map kV))) (ry : RelV y u) :
    KT H (putK kvs k y) (storedH xs k b u) := by
  have e : (kvs.any fun kv => decide (kv.1 = k)) = (atKey xs k).isSome := by
    rw [valV_any, (r.val k).isSome_eq, Option.isSome_map]
  unfold putK storedH
  rw [e]
  by_cases q : (atKey xs k).isSome = true
  · rw [if_pos q, if_pos q]; exact r.repl k ry
  · rw [if_neg q, if_neg q]; exact Paired.snoc r ⟨rfl, hb, ry⟩
theorem KT.keeps {H H' : Hp} {kvs : List (List Key × V)} {xs : List (List Key × Addr × Value)} (r : KT H kvs xs) (ht : ∀ b ys, H b = some (.tup ys) → H' b = some (.tup ys)) : KT H' kvs xs :=
  Paired.mapP r fun _ _ z => ⟨z.1, ht _ _ z.2.1, z.2.2⟩

section
variable {P : Program} {w : World} {H : Hp} {h : Heap} {a : Addr}
end

/-- what the dict at a holds at the key y -/
def DGet (H : Hp) (a : Addr) (y : V) (r : Option V) : Prop :=
  (∃ kvs k, Rd H a (.dK kvs) ∧ y = kV k ∧ r = valV kvs k) ∨ ∃ kvs k b, Rd H a (.dT kvs) ∧ y = .ref b ∧ H b = some (.tup (k.map kV)) ∧ r = valV kvs k
/-- the heap behind a[y] = v -/
def DPut (H : Hp) (a : Addr) (y v : V) (H' : Hp) : Prop :=
  (∃ kvs k, H a = some (.dK kvs) ∧ y = kV k ∧ kvs.length < sizeLine ∧ H' = upd H a (.dK (putK kvs k v))) ∨
  ∃ kvs k b, H a = some (.dT kvs) ∧ y = .ref b ∧ H b = some (.tup (k.map kV)) ∧ kvs.length < sizeLine ∧ H' = upd H a (.dT (putK kvs k v))
theorem DGet.k {H : Hp} {a : Addr} {kvs : List (Key × V)} {k : Key} (e : H a = some (.dK kvs)) : DGet H a (kV k) (valV kvs k) := .inl ⟨kvs, k, .inl e, rfl, rfl⟩
theorem DGet.t {H : Hp} {a b : Addr} {kvs : List (List Key × V)} {k : List Key} (e : H a = some (.dT kvs)) (eb : H b = some (.tup (k.map kV))) : DGet H a (.ref b) (valV kvs k) := .inr ⟨kvs, k, b, .inl e, rfl, eb, rfl⟩
theorem DPut.k {H : Hp} {a : Addr} {kvs : List (Key × V)} {k : Key} {v : V} (e : H a = some (.dK kvs)) (hl : kvs.length < sizeLine) : DPut H a (kV k) v (upd H a (.dK (putK kvs k v))) := .inl ⟨kvs, k, e, rfl, hl, rfl⟩
theorem DPut.t {H : Hp} {a b : Addr} {kvs : List (List Key × V)} {k : List Key} {v : V} (e : H a = some (.dT kvs)) (eb : H b = some (.tup (k.map kV))) (hl : kvs.length < sizeLine) :
    DPut H a (.ref b) v (upd H a (.dT (putK kvs k v))) := .inr ⟨kvs, k, b, e, rfl, eb, hl, rfl⟩


section
variable {X : Cx} {pins : List (Addr × Obj)} {σ : St} {H : Hp} {s : Shared} {a : Addr} {y v : V} {u r : Value} {o : Option V} {A : Around} {E : Value → Shared → Prop}

theorem Inv.big (I : Inv X pins σ H s) : sysModules < s.heap.objs.size := by
  have h : mainGlobals < s.heap.objs.size := (I.mod.glob.keeps I.bk).lt
  exact Nat.lt_trans (by decide) h

/-- a dict's object is replaced -/
theorem d_write {h' : Heap} {t' : Nat} {ob : HO} (I : Inv X pins σ H s) (mu : Mut (H a)) (hs : Heap.SameBut a s.heap h') (he : ∃ q, h'.get? a = some q) (new : ObjOk X.prog X.w (upd H a ob) h' a ob) :
    Inv X pins σ (upd H a ob) { s with heap := h', toks := t' } :=
  I.write (x := a) (e := a) mu (.inl rfl) (fun b q hb z => (hs.2 b hb).trans z) he new
end

section
variable {X : Cx} {pins : List (Addr × Obj)} {σ : St} {H : Hp} {s : Shared} {a : Addr} {kvs : List (Key × V)} {k : Key} {u : Value} {A : Around} {E : Value → Shared → Prop}
end


/-! ### readings and rules -/
/-- the element of a subscription, not a slice -/
def NoSl (i : Expr) : Prop := ∀ ov iv, subscripted i false ov iv = operate [ov, iv] (getItem ov iv)
theorem subD_of {prog : Program} {w : World} {A : Around} {E : Value → Shared → Prop} {s : Shared} {env : Env} {value slice : Expr} {pos : Pos} {T id : String} {Q : Value → Shared → Prop}
    (hl : typeLookup (.type T) "__getitem__" = pure (some (.builtin id))) (hs : NoSl slice)
    (h : wpAny (model prog w) A (eval value env) (fun o s₁ => wpAny (model prog w) A (eval slice env) (fun i s₂ => s₂.TypeIs o T ∧ wpAny (model prog w) A (getItem o i) Q E s₂) E s₁) E s) :
    wpAny (model prog w) A (eval (.Subscript value slice pos) env) Q E s := by
  refine Subscript_ (wpAny_mono h (fun o s₁ h₁ => wpAny_mono h₁ (fun i s₂ h₂ => ?_) fun _ _ x => x) fun _ _ x => x)
  obtain ⟨hT, h₂⟩ := h₂
  unfold subscriptTail
  refine wpAny_bind ?_
  rw [getitemInPython_of_ne hT.not_modules]
  refine wpAny_bind (wpAny_specialOf hT hl ?_)
  have fin : wpAny (model prog w) A (subscripted slice false o i) (fun r s₃ => wpAny (model prog w) A (letTemporaryGo value o r >>= fun _ => pure r) Q E s₃) E s₂ := by
    rw [hs o i]
    exact wpAny_operating (wpAny_mono h₂ (fun r s₃ h₃ => wpAny_bind (wpAny_letTemporaryGo (wpAny_pure h₃))) fun _ _ x => x)
  first
    | exact wpAny_pure (wpAny_bind fin)
    | exact wpAny_bind (wpAny_pure (wpAny_bind fin))
    | exact wpAny_bind fin

section
variable {X : Cx} {o i e value : Expr} {pos pos' tpos : Pos} {td ty tv : TE}
end


/-! ### displays -/
section
variable {X : Cx} {pos : Pos}
end

/-! ### methods -/
/-- a method call o.m(e) of a built-in, with one argument: what must be seen of the text -/
structure M1 (X : Cx) (o : Expr) (m : Str) (apos : Pos) (e : Expr) (cpos : Pos) : Prop where
  base : attributeBase o m X.env (eval o X.env) = eval o X.env
  few : ((backTo cpos (starEach [e] X.env)).all (fun x => !x.1) && (backToKw cpos (keywordEach [] X.env)).all (fun x => x.1.isSome)
    && decide (([e] : List Expr).length + ([] : List Keyword).length + (if ([] : List Keyword).isEmpty then 0 else 1) < 30)) = true
  line : (apos.endLine == cpos.line) = true
  trees : backTo cpos (starEach [e] X.env) = [(false, eval e X.env)]
structure M2 (X : Cx) (o : Expr) (m : Str) (apos : Pos) (e f : Expr) (cpos : Pos) : Prop where
  base : attributeBase o m X.env (eval o X.env) = eval o X.env
  few : ((backTo cpos (starEach [e, f] X.env)).all (fun x => !x.1) && (backToKw cpos (keywordEach [] X.env)).all (fun x => x.1.isSome)
    && decide (([e, f] : List Expr).length + ([] : List Keyword).length + (if ([] : List Keyword).isEmpty then 0 else 1) < 30)) = true
  line : (apos.endLine == cpos.line) = true
  trees : backTo cpos (starEach [e, f] X.env) = [(false, eval e X.env), (false, eval f X.env)]

section
variable {X : Cx} {pins : List (Addr × Obj)} {σ : St} {H : Hp} {s : Shared} {a : Addr} {y d : V} {u r : Value} {o : Option V} {A : Around} {E : Value → Shared → Prop}
end

section
variable {X : Cx} {o e f : Expr} {apos cpos : Pos} {td ty tx : TE}
end

/-! ### dict(d): a copy -/
section
variable {X : Cx} {pins : List (Addr × Obj)} {σ : St} {H : Hp} {s : Shared} {a : Addr} {kvs : List (Key × V)} {A : Around} {E : Value → Shared → Prop}
end


section
variable {X : Cx} {pins : List (Addr × Obj)} {σ : St} {H : Hp} {s : Shared} {a : Addr} {y : V} {u : Value} {A : Around} {E : Value → Shared → Prop}
end
end L2

namespace L2
open PySem PySem.Spec PyProof.Rows

section
variable {prog : Program} {w : World} {A : Around} {E : Value → Shared → Prop}
end

section
variable {X : Cx}
end
end L2

namespace L2
open PySem PySem.Spec PyProof.Rows

section
variable {X : Cx} {pins : List (Addr × Obj)} {σ : St} {H : Hp} {s : Shared} {h' : Heap}
/-- several records of ours have turned -/
theorem Inv.turnedL {t' : Nat} {ch : List Addr} (I : Inv X pins σ H s) (k : ∀ b o, b ∉ ch → s.heap.get? b = some o → h'.get? b = some o) (hf : ∀ b ∈ ch, FpOk X pins H b) : Inv X pins σ H { s with heap := h', toks := t' } := by
  have nit : ∀ b u, H b = some u → b ∉ ch := fun b u e z => by
    have q := (hf b z).1
    rw [q] at e; cases e
  refine I.step (g' := s.gens) (d' := s.drawn) (ch := ch) (fun b hb => ⟨(hf b hb).2.2.2.1, (hf b hb).2.1, (hf b hb).2.2.2.2.1, (hf b hb).2.2.2.2.2⟩) (fun b o _ _ hc e _ => k b o hc e) (fun b o _ _ hc e _ => ⟨o.slots, k b o hc e⟩)
    (fun _ _ _ _ n => n) (fun b o hc e => ⟨o, k b o hc e⟩) (fun _ _ e => e) (fun _ _ _ e => e) (fun b ps e => ⟨#[], by rw [e]; simp⟩) (fun m hm => ?_) (fun b u e => ?_) I.bare
  · obtain ⟨o, es, ep, ho, r⟩ := hm
    exact ⟨o, es, ep, k _ o (fun z => (hf _ z).2.1 rfl) ho, r⟩
  · refine (I.hok b u e).stay (fun c v hc q => k c v ?_ q) (fun _ q => q) fun _ _ q => q
    rcases hc with z | z
    · rw [z]; exact nit b u e
    · exact nit c _ z
/-- .. and one new object is laid -/
theorem Inv.turnedNew {t' : Nat} {ch : List Addr} {T : Addr} {ob : HO} (I : Inv X pins σ H s) (k : ∀ b o, b ∉ ch → s.heap.get? b = some o → h'.get? b = some o) (hf : ∀ b ∈ ch, FpOk X pins H b) (hT : s.heap.objs.size ≤ T)
    (new : ObjOk X.prog X.w (upd H T ob) h' T ob) : Inv X pins σ (upd H T ob) { s with heap := h', toks := t' } := by
  have hn : H T = none := I.hok.fresh hT
  have nit : ∀ b u, H b = some u → b ∉ ch := fun b u e z => by
    have q := (hf b z).1
    rw [q] at e; cases e
  refine I.step (g' := s.gens) (d' := s.drawn) (ch := ch) (fun b hb => ⟨(hf b hb).2.2.2.1, (hf b hb).2.1, (hf b hb).2.2.2.2.1, (hf b hb).2.2.2.2.2⟩) (fun b o _ _ hc e _ => k b o hc e) (fun b o _ _ hc e _ => ⟨o.slots, k b o hc e⟩)
    (fun b o _ e n => ?_) (fun b o hc e => ⟨o, k b o hc e⟩) (fun b xs e => ?_) (fun b o u e => ?_) (fun b ps e => ⟨#[], ?_⟩) (fun m hm => ?_) (fun b u e => ?_) I.bare
  · rw [upd_ne (Nat.ne_of_lt (Nat.lt_of_lt_of_le (Heap.lt_size e) hT))]; exact n
  · rw [upd_ne (ne_of_none e hn)]; exact e
  · rw [upd_ne (ne_of_none e hn)]; exact e
  · rw [upd_ne (ne_of_none e hn), e]; simp
  · obtain ⟨o, es, ep, ho, r⟩ := hm
    exact ⟨o, es, ep, k _ o (fun z => (hf _ z).2.1 rfl) ho, r⟩
  · by_cases hb : b = T
    · subst hb
      rw [upd_same] at e
      cases e
      exact new
    · rw [upd_ne hb] at e
      refine (I.hok b u e).stay (fun c v hc q => k c v ?_ q) (fun c q => by rw [upd_ne (ne_of_none q hn)]; exact q) fun c xs q => by rw [upd_ne (ne_of_none q hn)]; exact q
      rcases hc with z | z
      · rw [z]; exact nit b u e
      · exact nit c _ z

/-! ### locking a thing while a statement runs -/
end
section
variable {X : Cx}
/-! ### one iterator just laid -/
theorem pi_one {tg : Expr} {pins : List (Addr × Obj)} {σ : St} {H : Hp} {s : Shared} {R : It → Hp → Prop} {J : It} {tn : Nat → Heap → Prop} {tk : Nat} (I : Inv X pins σ H s) (o : Obj)
    (T : Turn X.prog X.w X.K tg J [s.heap.objs.size] s.heap.objs.size tn) (st : tn 0 (s.heap.push o)) (q : R J H) : PIE X pins σ tg R (.ref s.heap.objs.size) { s with heap := s.heap.push o, toks := tk } := by
  refine ⟨s.heap.objs.size, [s.heap.objs.size], tn, J, H, rfl, I.kept fun b ob e => Heap.get?_push_of_some _ e, T, st, fun b hb => ?_, q⟩
  have e : b = s.heap.objs.size := by simpa using hb
  subst e
  exact I.fpOk (Nat.le_refl _) (I.hok.fresh (Nat.le_refl _))
end

/-! ### range with a step -/
/-- lo, lo + c, .. (n of them) -/
def Itc (lo c : Int) (n : Nat) : It := ⟨fun i _ => i < n, fun i H x H' => H' = H ∧ x = .int (lo + (i : Nat) * c), fun i _ => n ≤ i⟩
theorem turn_rangeC {P : Program} {w : World} {K : PySem.W.Frag} {tg : Expr} (it : Addr) (lo c : Int) (n : Nat) : Turn P w K tg (Itc lo c n) [it] it (fun i h => IsRangeIter h it (lo + (i : Nat) * c) ((n : Int) - (i : Nat)) c) where
  mem := by simp
  obj := fun i h st b hb => by
    have e : b = it := by simpa using hb
    subst e
    exact ⟨_, st, fun v z => nomatch z⟩
  keep := fun i h h' st k => k it (by simp) _ st
  item := by
    intro X hP hw hK hc i pins s σ H E I hf st hg
    subst hP hw hK
    obtain ⟨f0, f1, f2, f3, f4, f5⟩ := hf it (by simp)
    have W := Walks.range (prog := X.prog) (w := X.w) (I.ok.hd hc) it lo c n
    refine W.item i s _ _ hg st fun v h' tk hv st' kk => ?_
    obtain ⟨t, rfl⟩ := hv
    have I1 : Inv X pins σ H { s with heap := h', toks := tk } := I.turned (fun b o hb e => kk b o (by simpa using hb) e) f0 f1 f3 f4 f5
    exact ⟨_, rfl, go_of (s := { s with heap := h', toks := tk }) (n := "range_iterator") st' rfl rfl (by decide) ⟨.int (lo + (i : Nat) * c), H, I1, ⟨t, rfl⟩, ⟨rfl, rfl⟩, st', fun b hb => (hf b hb).1⟩⟩
  done := by
    intro X hP hw hK hc i pins s σ H E I hf st hg
    subst hP hw hK
    obtain ⟨f0, f1, f2, f3, f4, f5⟩ := hf it (by simp)
    exact wpAny_pyNext_range_end (I.ok.hd hc) st (by have : n ≤ i := hg; omega) fun h' eb => ⟨rfl, I.turned (t' := s.toks) (fun b o hb e => eb b o hb e) f0 f1 f3 f4 f5⟩
  self := fun A i s Q E st h => wpAny_pyIter_rangeiter st h
/-- range(i, j, c): small bounds, n items -/
def RgC (i j c : Int) (n : Nat) : Prop := c ≠ 0 ∧ c.natAbs < 1073741824 ∧ Builtin.Range.small i j c = true ∧ Builtin.Range.rangeSize i j c = n
theorem RgC.neg {i j : Int} (ha : -(2 ^ 62) ≤ i) (ha' : i < 2 ^ 62) (hb : -(2 ^ 62) ≤ j) (hb' : j < 2 ^ 62) : RgC i j (-1) (i - j).toNat :=
  ⟨by decide, by decide, PySem.W.small_down ha ha' hb hb', PySem.W.rangeSize_downNat i j⟩
def iRng3 (ta : TA) : TI := fun σ H R => ta σ H fun vs H1 => ∃ (i j c : Int) (n : Nat), vs = [.int i, .int j, .int c] ∧ RgC i j c n ∧ R (Itc i c n) H1
section
variable {X : Cx} {tg : Expr}
theorem pi_range3 {a b c : Expr} {ta : TA} {p pos : Pos} (hg : Gl X "range") (hm : X.mg "range" = none) (ha : PA X [a, b, c] ta)
    (hs : starEach [a, b, c] X.env = (false, eval a X.env) :: starEach [b, c] X.env := by rfl) (hpl : (backTo pos (starEach [b, c] X.env)).any (·.1) = false := by rfl) :
    PI X tg (.Call (.Name "range" p) [a, b, c] [] pos) (iRng3 ta) := by
  intro pins s σ H R I h
  refine Call_ (ld_blt I hg hm boot_range (PyProof.Rows.callWith_type1 (thn (ha pos pins s σ H _ I h) fun us s1 ⟨vs, H1, I1, r1, q1⟩ => ?_) hs hpl))
  obtain ⟨i, j, k, n, e, ⟨c0, c1, c2, c3⟩, q⟩ := q1
  subst e
  cases r1 with
  | cons r rr =>
    cases rr with
    | cons r' rr =>
      cases rr with
      | cons r'' rr =>
        cases rr
        obtain ⟨t, rfl⟩ := r
        obtain ⟨t', rfl⟩ := r'
        obtain ⟨t'', rfl⟩ := r''
        refine call_range_3 c0 ?_ (.inl (PyProof.noPylong_small c1))
        refine wpAny_pyIter_range (IsRange.new ..) c2 ?_
        have I2 : Inv X pins σ H1 { s1 with heap := s1.heap.push { cls := .type "range", data := .fields #[.int i t, .int j t', .int k t''] } } := I1.kept (t' := s1.toks) fun b o e => Heap.get?_push_of_some _ e
        refine pi_one (tk := s1.toks) I2 _ (turn_rangeC _ i k n) ?_ q
        have e1 : i + ((0 : Nat) : Int) * k = i := by simp
        have e2 : (n : Int) - ((0 : Nat) : Int) = Builtin.Range.rangeSize i j k := by rw [c3]; simp
        show IsRangeIter _ _ (i + ((0 : Nat) : Int) * k) ((n : Int) - ((0 : Nat) : Int)) k
        rw [e1, e2]
        exact Heap.get?_push_size _ rfl
end
/-- the turns of a step range, for the for loop -/
theorem for_rangeC {lo c : Int} {n : Nat} {g : TG} {tb : TS} {D : Ends} {σ : St} {H : Hp} (Pv : Nat → St → Hp → Prop) (h0 : Pv 0 σ H)
    (hs : ∀ i σ H, i < n → Pv i σ H → g (.int (lo + (i : Nat) * c)) σ H fun σ2 H2 => tb { D with nx := Pv (i + 1), ct := Pv (i + 1), bk := D.nx } σ2 H2) (hd : ∀ σ H, Pv n σ H → D.nx σ H) :
    ∃ W : Nat → Nat → St → Hp → Prop, (∃ m, W 0 m σ H) ∧ ∀ i m σ H, W i m σ H →
      ((Itc lo c n).stop i H ∧ D.nx σ H) ∨ ((Itc lo c n).go i H ∧ ∃ N : St → Hp → Prop, (∀ σ' H', N σ' H' → ∃ m', m' < m ∧ W (i + 1) m' σ' H') ∧ ∀ x H', (Itc lo c n).yld i H x H' → g x σ H' fun σ2 H2 => tb { D with nx := N, ct := N, bk := D.nx } σ2 H2) := by
  refine ⟨fun i m σ H => m = n - i ∧ i ≤ n ∧ Pv i σ H, ⟨n, by simp, Nat.zero_le _, h0⟩, ?_⟩
  rintro i m σ H ⟨rfl, hi, p⟩
  by_cases hlt : i < n
  · refine .inr ⟨hlt, Pv (i + 1), fun σ' H' p' => ⟨n - (i + 1), by omega, rfl, hlt, p'⟩, fun x H' y => ?_⟩
    obtain ⟨e, y⟩ := y
    subst e y
    exact hs i σ _ hlt p
  · have e : i = n := by omega
    subst e
    exact .inl ⟨Nat.le_refl _, hd σ H p⟩

/-! ### reversed(list) -/
section
variable {X : Cx} {tg : Expr}
end

/-! ### a str -/
def Its (x : Str) : It := ⟨fun i _ => i < x.cps.size, fun i H v H' => H' = H ∧ ∃ c, x.cps[i]? = some c ∧ v = .str ⟨#[c]⟩, fun i _ => x.cps.size ≤ i⟩
theorem turn_str {P : Program} {w : World} {K : PySem.W.Frag} {tg : Expr} (it : Addr) (x : Str) (t : Tok) (ty : String) (hty : ty = "str_ascii_iterator" ∨ ty = "str_iterator") :
    Turn P w K tg (Its x) [it] it (fun i h => h.IsStrIter it ty x t i) where
  mem := by simp
  obj := fun i h st b hb => by
    have e : b = it := by simpa using hb
    subst e
    obtain ⟨o, e, c, d⟩ := st
    exact ⟨o, e, fun v z => by rw [d] at z; cases z⟩
  keep := fun i h h' st k => let ⟨o, ho, r⟩ := st; ⟨o, k it (by simp) o ho, r⟩
  item := by
    intro X hP hw hK hc i pins s σ H E I hf st hg
    subst hP hw hK
    obtain ⟨f0, f1, f2, f3, f4, f5⟩ := hf it (by simp)
    have W : Walks X.prog X.w X.A it [it] [it] x.cps.size (SignAt x) (fun i h => h.IsStrIter it ty x t i) := by
      rcases hty with e | e
      · rw [e]; exact Walks.strAscii (I.ok.hd hc) it x t
      · rw [e]; exact Walks.strWide (I.ok.hd hc) it x t
    have hno : ["enumerate", "zip", "dict_itemiterator", "dict_reverseitemiterator", "odict_iterator", "itertools.zip_longest", "itertools.pairwise"].contains ty = false := by
      rcases hty with e | e
      · rw [e]; decide
      · rw [e]; decide
    refine W.item i s _ _ hg st fun v h' tk hv st' kk => ?_
    obtain ⟨c, u, hcx, rfl⟩ := hv
    have I1 : Inv X pins σ H { s with heap := h', toks := tk } := I.turned (fun b o hb e => kk b o (by simpa using hb) e) f0 f1 f3 f4 f5
    obtain ⟨oi, e, cc, dd⟩ := id st'
    exact ⟨_, rfl, go_of (s := { s with heap := h', toks := tk }) e cc dd hno ⟨.str ⟨#[c]⟩, H, I1, ⟨u, rfl⟩, ⟨rfl, c, hcx, rfl⟩, st', fun b hb => (hf b hb).1⟩⟩
  done := by
    intro X hP hw hK hc i pins s σ H E I hf st hg
    subst hP hw hK
    obtain ⟨f0, f1, f2, f3, f4, f5⟩ := hf it (by simp)
    have hx : x.cps[i]? = none := Array.getElem?_eq_none hg
    rcases hty with e | e
    · rw [e] at st
      exact wpAny_pyNext_ascii_end (I.ok.hd hc) st hx fun h' eb => ⟨rfl, I.turned (t' := s.toks) (fun b o hb e => eb b o hb e) f0 f1 f3 f4 f5⟩
    · rw [e] at st
      exact wpAny_pyNext_wide_end (I.ok.hd hc) st hx fun h' eb => ⟨rfl, I.turned (t' := s.toks) (fun b o hb e => eb b o hb e) f0 f1 f3 f4 f5⟩
  self := fun A i s Q E st h => by
    rcases hty with e | e
    · rw [e] at st; exact wpAny_pyIter_striter_ascii st h
    · rw [e] at st; exact wpAny_pyIter_striter_wide st h
def iStr (te : TE) : TI := fun σ H R => te σ H fun v H1 => ∃ x, v = .str x ∧ R (Its x) H1
theorem pi_str {X : Cx} {tg e : Expr} {te : TE} (he : PE X e te) : PI X tg e (iStr te) := by
  intro pins s σ H R I h
  refine thn (he pins s σ H _ I h) fun v s1 ⟨y, H1, I1, r1, x, ex, q⟩ => ?_
  subst ex
  obtain ⟨t, rfl⟩ := r1
  cases ha : x.cps.all (· < 128)
  · exact wpAny_pyIter_wide ha (pi_one (tk := s1.toks) I1 _ (turn_str _ x t "str_iterator" (.inr rfl)) ⟨_, Heap.get?_push_size _ rfl, rfl, rfl⟩ q)
  · exact wpAny_pyIter_ascii ha (pi_one (tk := s1.toks) I1 _ (turn_str _ x t "str_ascii_iterator" (.inl rfl)) ⟨_, Heap.get?_push_size _ rfl, rfl, rfl⟩ q)

/-! ### a dict's keys: any dict's entries -/
section
variable {prog : Program} {w : World} {A : Around} {E : Value → Shared → Prop} {s : Shared}
end

/-! ### a locked dict -/
section
variable {X : Cx} {pins : List (Addr × Obj)} {σ : St} {H : Hp} {s : Shared} {d : Addr} {o : Obj}
end

section
variable {P : Program} {w : World} {K : PySem.W.Frag} {tg : Expr} {d : Addr} {o : Obj} {es : Array DictEntry} {ep : Nat}
end

/-! ### for k in d, d.keys(), d.values(), d.items() -/
section
variable {X : Cx} {tg e : Expr} {td : TE} {apos cpos : Pos}
end

/-! ### enumerate(list) -/
/-- the list at a as it stands at each turn, each item in a new pair -/
def Ite (K : PySem.W.Frag) (a : Addr) : It :=
  ⟨fun i H => ∃ (xs : List V) (x : V), SqL K H a xs ∧ xs[i]? = some x, fun i H v H' => ∃ T x, v = .ref T ∧ H T = none ∧ H' = upd H T (.tup [.int (i : Nat), x]) ∧ ∀ xs, SqL K H a xs → xs[i]? = some x, fun i H => ∃ xs : List V, SqL K H a xs ∧ xs.length ≤ i⟩
theorem turn_enum {P : Program} {w : World} {K : PySem.W.Frag} {elts : List Expr} {kk : Nat} {tpos : Pos} (a e it : Addr) :
    Turn P w K (.Tuple elts kk tpos) (Ite K a) [e, it] e (fun i h => (∃ old, IsEnum h e it ((i : Nat) : Int) old) ∧ h.IsListIter it a i ∧ e ≠ it) where
  mem := by simp
  obj := fun i h st b hb => by
    obtain ⟨⟨old, he⟩, ⟨o, ho, hc, hd⟩, _⟩ := st
    have e' : b = e ∨ b = it := by simpa using hb
    rcases e' with z | z
    · rw [z]; exact ⟨_, he, fun v q => nomatch q⟩
    · rw [z]; exact ⟨o, ho, fun v q => by rw [hd] at q; cases q⟩
  keep := fun i h h' st k => let ⟨⟨old, he⟩, hi, hne⟩ := st; ⟨⟨old, k e (by simp) _ he⟩, hi.at fun o q => k it (by simp) o q, hne⟩
  item := by
    intro X hP hw hK hc i pins s σ H E I hf st hg
    subst hP hw hK
    obtain ⟨⟨old, he⟩, hit, hne⟩ := st
    obtain ⟨xs, x, hq, hx⟩ := hg
    obtain ⟨its, rv, p, hz⟩ := I.list hq
    obtain ⟨u, hu, ru⟩ := rv.get hx
    have hel : e < s.heap.objs.size := Heap.lt_size he
    have hil : it < s.heap.objs.size := by obtain ⟨_, q, _⟩ := hit; exact Heap.lt_size q
    refine wpAny_pyNext_enum_item he hit p.isList (x := u) (by simpa using hu) hne fun h' ho hit' hT hsz hk => ?_
    refine ⟨_, rfl, wpAny_letOwnedTupleGo_enum (s := { s with heap := h', toks := s.toks + 1 }) ho fun h'' he' sb => ?_⟩
    have hT2 : h''.get? s.heap.objs.size = some { cls := .type "tuple", data := .seq #[.int i s.toks, u] } := (sb.2 _ (Nat.ne_of_gt hel)).trans hT
    have new : ObjOk X.prog X.w (upd H s.heap.objs.size (.tup [.int (i : Nat), x])) h'' s.heap.objs.size (.tup [.int (i : Nat), x]) :=
      ⟨by show 2 ≤ sizeLine; decide, [.int i s.toks, u], .cons ⟨_, rfl⟩ (.cons ru .nil), ⟨_, hT2, rfl, _, rfl⟩⟩
    have I1 : Inv X pins σ (upd H s.heap.objs.size (.tup [.int (i : Nat), x])) { s with heap := h'', toks := s.toks + 1 } :=
      I.turnedNew (ch := [e, it]) (fun b ob hb q => (sb.2 b (fun z => hb (by simp [z]))).trans (hk b ob (fun z => hb (by simp [z])) (fun z => hb (by simp [z])) q)) hf (Nat.le_refl _) new
    refine ⟨.ref s.heap.objs.size, _, I1, rfl, ⟨_, x, rfl, I.hok.fresh (Nat.le_refl _), rfl, fun ys hy => by rw [I.list_inj hy hq]; exact hx⟩, ⟨⟨u, ?_⟩, hit'.at fun o q => (sb.2 it (Ne.symm hne)).trans q, hne⟩, fun b hb => ?_⟩
    · have e1 : ((i + 1 : Nat) : Int) = (i : Int) + 1 := by omega
      rw [e1]; exact he'
    · have hb' : b < s.heap.objs.size := by
        have e' : b = e ∨ b = it := by simpa using hb
        rcases e' with z | z
        · rw [z]; exact hel
        · rw [z]; exact hil
      rw [upd_ne (Nat.ne_of_lt hb')]
      exact (hf b hb).1
  done := by
    intro X hP hw hK hc i pins s σ H E I hf st hg
    subst hP hw hK
    obtain ⟨⟨old, he⟩, hit, hne⟩ := st
    obtain ⟨xs, hq, hx⟩ := hg
    obtain ⟨its, rv, p, hz⟩ := I.list hq
    obtain ⟨f0, f1, f2, f3, f4, f5⟩ := hf it (by simp)
    have hl := rv.length
    exact wpAny_pyNext_enum_end (I.ok.hd hc) he hit p.isList (by simp; omega) fun h' eb => ⟨rfl, I.turned (t' := s.toks) (fun b o hb q => eb b o hb q) f0 f1 f3 f4 f5⟩
  self := fun A i s Q E st h => let ⟨⟨_, he⟩, _⟩ := st; wpAny_pyIter_enum he h
def iEnum (K : PySem.W.Frag) (ta : TA) : TI := fun σ H R => ta σ H fun vs H1 => ∃ a xs, vs = [.ref a] ∧ SqL K H1 a xs ∧ R (Ite K a) H1
theorem pi_enum {X : Cx} {e : Expr} {ta : TA} {p pos tpos : Pos} {elts : List Expr} {kk : Nat} (hg : Gl X "enumerate") (hm : X.mg "enumerate" = none) (ha : PA X [e] ta) (hs : starEach [e] X.env = [(false, eval e X.env)] := by rfl) :
    PI X (.Tuple elts kk tpos) (.Call (.Name "enumerate" p) [e] [] pos) (iEnum X.K ta) := by
  intro pins s σ H R I h
  refine Call_ (ld_blt I hg hm boot_enumerate (PyProof.Rows.callWith_type1 (thn (ha pos pins s σ H _ I h) fun us s1 ⟨vs, H1, I1, r1, q1⟩ => ?_) hs rfl))
  obtain ⟨a, xs, ex, hq, q⟩ := q1
  subst ex
  cases r1 with
  | cons r rr =>
    cases rr
    cases r
    obtain ⟨its, rv, p', hz⟩ := I1.list hq
    refine call_enumerate_list p'.isList fun h' he hit hsz hk => wpAny_pyIter_enum he ?_
    have I2 : Inv X pins σ H1 { s1 with heap := h' } := I1.kept (t' := s1.toks) hk
    refine ⟨s1.heap.objs.size + 1, [s1.heap.objs.size + 1, s1.heap.objs.size], _, _, H1, rfl, I2, turn_enum a (s1.heap.objs.size + 1) s1.heap.objs.size, ⟨⟨.none, he⟩, hit, Nat.succ_ne_self _⟩, fun b hb => ?_, q⟩
    have e' : b = s1.heap.objs.size + 1 ∨ b = s1.heap.objs.size := by simpa using hb
    have hle : s1.heap.objs.size ≤ b := by
      rcases e' with z | z
      · rw [z]; exact Nat.le_add_right _ _
      · rw [z]; exact Nat.le_refl _
    exact I1.fpOk hle (I1.hok.fresh hle)
/-! ### zip(list, list) -/
theorem boot_zip5 : bootBuiltins "zip" = some (.type "zip") := by decide +kernel
/-- the lists at a and b as they stand at each turn, the items in new pairs -/
def Itz (K : PySem.W.Frag) (a b : Addr) : It :=
  ⟨fun i H => ∃ (xs ys : List V) (x y : V), SqL K H a xs ∧ SqL K H b ys ∧ xs[i]? = some x ∧ ys[i]? = some y,
    fun i H v H' => ∃ T x y, v = .ref T ∧ H T = none ∧ H' = upd H T (.tup [x, y]) ∧ (∀ xs, SqL K H a xs → xs[i]? = some x) ∧ ∀ ys, SqL K H b ys → ys[i]? = some y,
    fun i H => ∃ xs ys : List V, SqL K H a xs ∧ SqL K H b ys ∧ (xs.length ≤ i ∨ ys.length ≤ i)⟩
theorem turn_zip {P : Program} {w : World} {K : PySem.W.Frag} {elts : List Expr} {kk : Nat} {tpos : Pos} {a b z TI TO i1 i2 : Addr} (D : ZipApart z TI TO i1 i2 a b) :
    Turn P w K (.Tuple elts kk tpos) (Itz K a b) [z, TI, TO, i1, i2] z (fun i h => IsZip h z TI TO .none ∧ IsPair h TI (.ref i1) (.ref i2) ∧ (∃ x y, IsPair h TO x y) ∧ h.IsListIter i1 a i ∧ h.IsListIter i2 b i) where
  mem := by simp
  obj := fun i h st c hc => by
    obtain ⟨hz, hTI, ⟨x, y, hTO⟩, ⟨o1, e1, _, d1⟩, ⟨o2, e2, _, d2⟩⟩ := st
    have e' : c = z ∨ c = TI ∨ c = TO ∨ c = i1 ∨ c = i2 := by simpa using hc
    rcases e' with q | q | q | q | q
    · rw [q]; exact ⟨_, hz, fun v q => nomatch q⟩
    · rw [q]; exact ⟨_, hTI, fun v q => nomatch q⟩
    · rw [q]; exact ⟨_, hTO, fun v q => nomatch q⟩
    · rw [q]; exact ⟨o1, e1, fun v q => by rw [d1] at q; cases q⟩
    · rw [q]; exact ⟨o2, e2, fun v q => by rw [d2] at q; cases q⟩
  keep := fun i h h' st k => by
    obtain ⟨hz, hTI, ⟨x, y, hTO⟩, h1, h2⟩ := st
    exact ⟨k z (by simp) _ hz, k TI (by simp) _ hTI, ⟨x, y, k TO (by simp) _ hTO⟩, h1.at fun o q => k i1 (by simp) o q, h2.at fun o q => k i2 (by simp) o q⟩
  item := by
    intro X hP hw hK hc i pins s σ H E I hf st hg
    subst hP hw hK
    obtain ⟨hz, hTI, ⟨x0, y0, hTO⟩, h1, h2⟩ := st
    obtain ⟨xs, ys, x, y, hqx, hqy, hx, hy⟩ := hg
    obtain ⟨its, rv, p, _⟩ := I.list hqx
    obtain ⟨its2, rv2, p2, _⟩ := I.list hqy
    obtain ⟨u, hu, ru⟩ := rv.get hx
    obtain ⟨u2, hu2, ru2⟩ := rv2.get hy
    have hzl : z < s.heap.objs.size := Heap.lt_size hz
    refine wpAny_pyNext_zip_item D hz hTI hTO h1 h2 p.isList p2.isList (x := u) (y := u2) (by simpa using hu) (by simpa using hu2) fun h' z' TO' h1' h2' hT hsz hk => ?_
    refine ⟨_, rfl, wpAny_letOwnedTupleGo_zip (s := { s with heap := h' }) z' fun h'' z'' sb => ?_⟩
    have hT2 : h''.get? s.heap.objs.size = some { cls := .type "tuple", data := .seq #[u, u2] } := (sb.2 _ (Nat.ne_of_gt hzl)).trans hT
    have new : ObjOk X.prog X.w (upd H s.heap.objs.size (.tup [x, y])) h'' s.heap.objs.size (.tup [x, y]) :=
      ⟨by show 2 ≤ sizeLine; decide, [u, u2], .cons ru (.cons ru2 .nil), ⟨_, hT2, rfl, _, rfl⟩⟩
    have I1 : Inv X pins σ (upd H s.heap.objs.size (.tup [x, y])) { s with heap := h'' } :=
      I.turnedNew (t' := s.toks) (ch := [z, TI, TO, i1, i2]) (fun c o hb q => (sb.2 c (fun q' => hb (by simp [q']))).trans (hk c o (fun q' => hb (by simp [q'])) (fun q' => hb (by simp [q'])) (fun q' => hb (by simp [q'])) (fun q' => hb (by simp [q'])) q)) hf (Nat.le_refl _) new
    refine ⟨.ref s.heap.objs.size, _, I1, rfl, ⟨_, x, y, rfl, I.hok.fresh (Nat.le_refl _), rfl, fun l hl => by rw [I.list_inj hl hqx]; exact hx, fun l hl => by rw [I.list_inj hl hqy]; exact hy⟩, ⟨z'', ?_, ⟨u, u2, ?_⟩, ?_, ?_⟩, fun c hcm => ?_⟩
    · exact (sb.2 _ D.TIz).trans (hk _ _ D.TIz D.TITO D.TIi1 D.TIi2 hTI)
    · exact (sb.2 _ D.TOz).trans TO'
    · exact h1'.at fun o q => (sb.2 _ D.i1z).trans q
    · exact h2'.at fun o q => (sb.2 _ D.i2z).trans q
    · have hlt : c < s.heap.objs.size := by
        have e' : c = z ∨ c = TI ∨ c = TO ∨ c = i1 ∨ c = i2 := by simpa using hcm
        rcases e' with q | q | q | q | q
        · rw [q]; exact hzl
        · rw [q]; exact Heap.lt_size hTI
        · rw [q]; exact Heap.lt_size hTO
        · rw [q]; obtain ⟨_, e1, _⟩ := h1; exact Heap.lt_size e1
        · rw [q]; obtain ⟨_, e2, _⟩ := h2; exact Heap.lt_size e2
      rw [upd_ne (Nat.ne_of_lt hlt)]
      exact (hf c hcm).1
  done := by
    intro X hP hw hK hc i pins s σ H E I hf st hg
    subst hP hw hK
    obtain ⟨hz, hTI, ⟨x0, y0, hTO⟩, h1, h2⟩ := st
    obtain ⟨xs, ys, hqx, hqy, hend⟩ := hg
    obtain ⟨its, rv, p, _⟩ := I.list hqx
    obtain ⟨its2, rv2, p2, _⟩ := I.list hqy
    have l1 := rv.length
    have l2 := rv2.length
    have he : its.toArray[i]? = none ∨ its2.toArray[i]? = none := by
      rcases hend with q | q
      · exact .inl (by simp; omega)
      · exact .inr (by simp; omega)
    exact wpAny_pyNext_zip_end (I.ok.hd hc) D hz hTI hTO h1 h2 p.isList p2.isList he fun h' hk => ⟨rfl, I.turnedL (t' := s.toks) (ch := [z, TI, TO, i1, i2]) (fun c o hb q =>
      hk c o (fun q' => hb (by simp [q'])) (fun q' => hb (by simp [q'])) (fun q' => hb (by simp [q'])) (fun q' => hb (by simp [q'])) q) hf⟩
  self := fun A i s Q E st h => wpAny_pyIter_zip st.1 h
def iZip (K : PySem.W.Frag) (ta : TA) : TI := fun σ H R => ta σ H fun vs H1 => ∃ a b xs ys, vs = [.ref a, .ref b] ∧ SqL K H1 a xs ∧ SqL K H1 b ys ∧ R (Itz K a b) H1
theorem pi_zip {X : Cx} {e e2 : Expr} {ta : TA} {p pos tpos : Pos} {elts : List Expr} {kk : Nat} (hg : Gl X "zip") (hm : X.mg "zip" = none) (ha : PA X [e, e2] ta)
    (hs : starEach [e, e2] X.env = (false, eval e X.env) :: starEach [e2] X.env := by rfl) (hpl : (backTo pos (starEach [e2] X.env)).any (·.1) = false := by rfl) :
    PI X (.Tuple elts kk tpos) (.Call (.Name "zip" p) [e, e2] [] pos) (iZip X.K ta) := by
  intro pins s σ H R I h
  refine Call_ (ld_blt I hg hm boot_zip5 (PyProof.Rows.callWith_type1 (thn (ha pos pins s σ H _ I h) fun us s1 ⟨vs, H1, I1, r1, q1⟩ => ?_) hs hpl))
  obtain ⟨a, b, xs, ys, ex, hqx, hqy, q⟩ := q1
  subst ex
  cases r1 with
  | cons r rr =>
    cases rr with
    | cons r' rr =>
      cases rr
      cases r
      cases r'
      obtain ⟨its, rv, p1, _⟩ := I1.list hqx
      obtain ⟨its2, rv2, p2, _⟩ := I1.list hqy
      have la : a < s1.heap.objs.size := p1.lt
      have lb : b < s1.heap.objs.size := p2.lt
      refine call_zip_2 p1.isList p2.isList fun h' hz hTI hTO h1 h2 hsz hk => wpAny_pyIter_zip hz ?_
      have I2 : Inv X pins σ H1 { s1 with heap := h' } := I1.kept (t' := s1.toks) hk
      refine ⟨s1.heap.objs.size + 4, [s1.heap.objs.size + 4, s1.heap.objs.size + 2, s1.heap.objs.size + 3, s1.heap.objs.size, s1.heap.objs.size + 1], _, _, H1, rfl, I2, turn_zip (PySem.W.ktu_apart s1.heap.objs.size a b la lb), ⟨hz, hTI, ⟨_, _, hTO⟩, h1, h2⟩, fun c hcm => ?_, q⟩
      have e' : c = s1.heap.objs.size + 4 ∨ c = s1.heap.objs.size + 2 ∨ c = s1.heap.objs.size + 3 ∨ c = s1.heap.objs.size ∨ c = s1.heap.objs.size + 1 := by simpa using hcm
      have hle : s1.heap.objs.size ≤ c := by
        rcases e' with z | z | z | z | z
        · rw [z]; exact Nat.le_add_right _ _
        · rw [z]; exact Nat.le_add_right _ _
        · rw [z]; exact Nat.le_add_right _ _
        · rw [z]; exact Nat.le_refl _
        · rw [z]; exact Nat.le_add_right _ _
      exact I1.fpOk hle (I1.hok.fresh hle)
end L2

section 
namespace Bits
open PySem PyProof.Rows

end Bits
end 

section 
namespace TL
open PySem PySem.Builtin PySem.Builtin.Str PySem.StrLaws

abbrev tl (x : Str) : List Nat := x.cps.toList
theorem len_tl (x : Str) : x.length = (tl x).length := by simp [tl, Str.length]
theorem ext_tl {x y : Str} (h : tl x = tl y) : x = y := Str.ext' (Array.toList_inj.mp h)
theorem tl_append (x y : Str) : tl (x ++ y) = tl x ++ tl y := by
  show (x ++ y).cps.toList = _
  rw [Str.cps_append, Array.toList_append]
/-! ### the list functions -/
/-- S stands at the head of l -/
def pre (S l : List Nat) : Bool := l.take S.length == S
/-- l cut at each S from the left; k signs are still to be passed over -/
def spl (S : List Nat) : Nat → List Nat → List Nat → List (List Nat)
  | _, acc, [] => [acc]
  | 0, acc, c :: r => if pre S (c :: r) = true then acc :: spl S (S.length - 1) [] r else spl S 0 (acc ++ [c]) r
  | k + 1, acc, _ :: r => spl S k acc r
/-- what stands before the first S, and behind it -/
def par (S : List Nat) : List Nat → List Nat → Option (List Nat × List Nat)
  | _, [] => none
  | acc, c :: r => if pre S (c :: r) = true then some (acc, (c :: r).drop S.length) else par S (acc ++ [c]) r

/-! ### the model's split and partition are these -/
theorem at_iff {x y : Str} (hy : tl y ≠ []) (i : Nat) : At x y x.length i ↔ pre (tl y) ((tl x).drop i) = true := by
  have hx := len_tl x
  have hl := len_tl y
  constructor
  · intro h
    have h2 := h.2
    rw [subAt_eq, hl] at h2
    exact h2
  · intro h
    have e : ((tl x).drop i).take (tl y).length = tl y := eq_of_beq h
    have e1 := congrArg List.length e
    rw [List.length_take, List.length_drop] at e1
    have e2 : 0 < (tl y).length := List.length_pos_iff.mpr hy
    refine ⟨by omega, ?_⟩
    rw [subAt_eq, hl]
    exact h
/-! ### computing spl and par -/
/-- joined lists -/
def joinL (S : List Nat) : List (List Nat) → List Nat
  | [] => []
  | [p] => p
  | p :: q :: r => p ++ (S ++ joinL S (q :: r))
theorem tl_join (y : Str) : ∀ parts : List Str, tl (Str.join y parts) = joinL (tl y) (parts.map tl)
  | [] => rfl
  | [_] => rfl
  | x :: z :: r => by
    show tl (x ++ y ++ Str.join y (z :: r)) = tl x ++ (tl y ++ joinL (tl y) ((z :: r).map tl))
    rw [tl_append, tl_append, tl_join y (z :: r), List.append_assoc]
theorem join_eq (y : Str) (parts : List Str) : Txt.join y parts = Str.join y parts := glued_eq_join y parts
/-! ### digits -/
/-! ### words: x.split() -/
end TL
end 

namespace L2
open PySem PySem.Spec PyProof.Rows

theorem strs_of_vals : ∀ {ys : List Str} {us : List Value}, Vals (ys.map V.str) us → StrsAre us ys
  | [], _, .nil => .nil
  | y :: ys, _, .cons r t => by
    obtain ⟨k, rfl⟩ := r
    exact .cons y k (strs_of_vals t)

section
variable {X : Cx} {pins : List (Addr × Obj)} {σ : St} {H : Hp} {s : Shared} {Q : VK}
end

section
variable {X : Cx}

/-- sep.join(a list | a tuple of texts) -/
theorem mt_join : MtR X "str.join" (fun x xs H Q => ∃ a p, ∃ ys : List Str, x = .str a ∧ xs = [.ref p] ∧ (SqL X.K H p (ys.map V.str) ∨ SqT X.K H p (ys.map V.str)) ∧
    (ys.map (·.length)).sum + ys.length * a.length ≤ 16777216 ∧ Q (.str (Txt.join a ys)) H) := by
  intro pins s σ H x xs v us Q I rx rs h
  obtain ⟨a, p, ys, rfl, rfl, hp, hz, h⟩ := h
  obtain ⟨t, rfl⟩ := rx
  cases rs with
  | cons r1 rs =>
    cases rs
    cases r1
    rcases hp with hp | hp
    · obtain ⟨its, r, ⟨o, n, ho, hc, _, hd⟩, _⟩ := I.list hp
      exact PyProof.Rows.join_list (items := its.toArray) ⟨o, ho, hc, n, hd⟩ (by rw [List.toList_toArray]; exact strs_of_vals r) hz fun t' k => ⟨.str _, H, I.tok k, ⟨t', rfl⟩, h⟩
    · obtain ⟨its, r, ht, _⟩ := I.tuple hp
      exact PyProof.Rows.join_tuple (items := its.toArray) ht (by rw [List.toList_toArray]; exact strs_of_vals r) hz fun t' k => ⟨.str _, H, I.tok k, ⟨t', rfl⟩, h⟩

/-! ### of a text alone -/
/-! ### of a text and a text -/
end

section
variable {X : Cx} {o e : Expr} {to te : TE}
def tM1 (r : V → List V → Hp → VK → Prop) (to te : TE) : TE := fun σ H Q => to σ H fun x H1 => (∃ a, x = .str a) ∧ te σ H1 fun y H2 => r x [y] H2 Q
theorem pe_m1 {id : String} {name : Str} {apos pos : Pos} {r : V → List V → Hp → VK → Prop} (slot : Slot "str" name id) (ty : typeOf (.builtin id) = pure (.type "method_descriptor")) (rule : MtR X id r) (ho : PE X o to) (he : PE X e te)
    (hs : starEach [e] X.env = [(false, eval e X.env)] := by rfl) (hbase : attributeBase o name X.env (eval o X.env) = eval o X.env := by rfl) (hline : (apos.endLine == pos.line) = true := by rfl) :
    PE X (.Call (.Attribute o name apos) [e] [] pos) (tM1 r to te) := by
  intro pins s σ H Q I h
  refine PySem.Call_method1 hbase hs hline (thn (ho pins s σ H _ I h) fun v s1 ⟨x, H1, I1, r1, q1⟩ => ?_)
  obtain ⟨⟨a, rfl⟩, q1⟩ := q1
  obtain ⟨t, rfl⟩ := _root_.id r1
  refine ⟨"str", _, F.plainAttrs_str, slot, ty, typeIs_str _ _ _, (fun _ e => nomatch e), Calls.callWith_builtin rfl (Calls.evalArgs_plain (Calls.spliced_cons ?_))⟩
  exact thn (he pins s1 σ H1 _ I1 q1) fun u s2 ⟨y, H2, I2, r2, q2⟩ => Calls.spliced_nil (rule pins s2 σ H2 _ [y] _ [u] Q I2 r1 (.cons r2 .nil) q2)

theorem pe_join {apos pos : Pos} (ho : PE X o to) (he : PE X e te) (hs : starEach [e] X.env = [(false, eval e X.env)] := by rfl) (hbase : attributeBase o "join" X.env (eval o X.env) = eval o X.env := by rfl) (hline : (apos.endLine == pos.line) = true := by rfl) :
    PE X (.Call (.Attribute o "join" apos) [e] [] pos) (tM1 (fun x xs H Q => ∃ a p, ∃ ys : List Str, x = .str a ∧ xs = [.ref p] ∧ (SqL X.K H p (ys.map V.str) ∨ SqT X.K H p (ys.map V.str)) ∧
      (ys.map (·.length)).sum + ys.length * a.length ≤ 16777216 ∧ Q (.str (Txt.join a ys)) H) to te) :=
  pe_m1 F.slot_str_join F.type_str_join mt_join ho he hs hbase hline
end
end L2

namespace L2
open PySem PySem.Spec PyProof.Rows

section
variable {X : Cx}
theorem op_le_str : OpR X (compareOp .LtE) (fun x y H Q => ∃ i j, x = .str i ∧ y = .str j ∧ Q (.bl (!decide (j.cps.toList < i.cps.toList))) H) := by
  intro pins s σ H x y v u Q I rx ry h
  obtain ⟨i, j, rfl, rfl, q⟩ := h
  obtain ⟨t, rfl⟩ := rx
  obtain ⟨t', rfl⟩ := ry
  exact PySem.P.le_str (fin_bl I q rfl)
theorem op_gt_str : OpR X (compareOp .Gt) (fun x y H Q => ∃ i j, x = .str i ∧ y = .str j ∧ Q (.bl (decide (j.cps.toList < i.cps.toList))) H) := by
  intro pins s σ H x y v u Q I rx ry h
  obtain ⟨i, j, rfl, rfl, q⟩ := h
  obtain ⟨t, rfl⟩ := rx
  obtain ⟨t', rfl⟩ := ry
  exact PySem.P.gt_str (fin_bl I q rfl)
/-- one sign in a text -/
theorem op_in_sign : OpR X (compareOp .In) (fun x y H Q => ∃ (c : Nat) (z : Str), x = .str ⟨#[c]⟩ ∧ y = .str z ∧ Q (.bl (decide (c ∈ z.cps.toList))) H) := by
  intro pins s σ H x y v u Q I rx ry h
  obtain ⟨c, z, rfl, rfl, q⟩ := h
  obtain ⟨t, rfl⟩ := rx
  obtain ⟨t', rfl⟩ := ry
  exact PyProof.Rows.in_str (fin_bl I q (PySem.StrLaws.found_one z c).symm)
end

/-! ### slices of a text -/
theorem IsPart.raw {v : Value} {o : Option Int} (p : IsPart v o) : ∃ l : Option (Int × Tok), v = partValue l ∧ l.map (·.1) = o := by
  cases p with
  | none => exact ⟨none, rfl, rfl⟩
  | int i t => exact ⟨some (i, t), rfl, rfl⟩

/-- a part, clipped, as the text's slice reckons it -/
def clipS (n d : Nat) : Option Int → Int
  | none => (d : Int)
  | some i => max 0 (min (if i < 0 then i + (n : Int) else i) (n : Int))
theorem clipS_eq (n d : Nat) (o : Option Int) : clipS n d o = ((HT.sIx n d o : Nat) : Int) := by
  cases o with
  | none => rfl
  | some v =>
    show max (0 : Int) (min (if v < 0 then v + (n : Int) else v) (n : Int)) = (((if v < 0 then (v + (n : Int)).toNat else min v.toNat n) : Nat) : Int)
    by_cases hv : v < 0
    · simp only [if_pos hv]
      omega
    · simp only [if_neg hv]
      omega
theorem sidx_clip (a b : Option Int) (n : Nat) : Builtin.Str.strSliceIndices a b 1 n = sliceRange (clipS n 0 a) (clipS n n b) 1 := by
  have h1 : ((1 : Int) > 0) = True := by simp
  cases a <;> cases b <;> first
    | rfl
    | (simp only [Builtin.Str.strSliceIndices, clipS, h1, if_true]; rfl)
    | simp [Builtin.Str.strSliceIndices, clipS]
theorem sidx (a b : Option Int) (n : Nat) : Builtin.Str.strSliceIndices a b 1 n = (List.range (HT.sIx n n b - HT.sIx n 0 a)).map (fun k => HT.sIx n 0 a + k) := by
  rw [sidx_clip, clipS_eq, clipS_eq]
  generalize HT.sIx n 0 a = p
  generalize HT.sIx n n b = q
  simp only [sliceRange, show ((1 : Int) > 0) = True from by simp, if_true]
  by_cases hlt : (p : Int) < q
  · have e3 : (((q : Int) - p + 1 - 1) / 1).toNat = q - p := by first | omega | (simp; done) | (simp; omega)
    simp only [hlt, if_true, e3]
    refine List.map_congr_left fun k _ => ?_
    omega
  · have : q - p = 0 := by omega
    simp [hlt, this]

/-- z[lo:hi] -/
def cutS (z : Str) (lo hi : Option Int) : Str :=
  ⟨((z.cps.toList.drop (HT.sIx z.length 0 lo)).take (HT.sIx z.length z.length hi - HT.sIx z.length 0 lo)).toArray⟩
theorem sliceText_cut (z : Str) (lo hi : Option Int) : PySem.StrLaws.sliceText z lo hi = cutS z lo hi := by
  have h1 : HT.sIx z.length 0 lo ≤ z.length := HT.sIx_le _ _ (Nat.zero_le _) _
  have h2 : HT.sIx z.length z.length hi ≤ z.length := HT.sIx_le _ _ (Nat.le_refl _) _
  have hp : HT.sIx z.length 0 lo ≤ max (HT.sIx z.length 0 lo) (HT.sIx z.length z.length hi) := Nat.le_max_left _ _
  have hq : max (HT.sIx z.length 0 lo) (HT.sIx z.length z.length hi) ≤ z.length := Nat.max_le.mpr ⟨h1, h2⟩
  have hd : max (HT.sIx z.length 0 lo) (HT.sIx z.length z.length hi) - HT.sIx z.length 0 lo = HT.sIx z.length z.length hi - HT.sIx z.length 0 lo := by omega
  have e : Builtin.Str.strSliceIndices lo hi 1 z.length =
      Builtin.Str.strSliceIndices (some ((HT.sIx z.length 0 lo : Nat) : Int)) (some ((max (HT.sIx z.length 0 lo) (HT.sIx z.length z.length hi) : Nat) : Int)) 1 z.length := by
    rw [PySem.StrLaws.strSliceIndices_plain hp hq, hd, sidx]
  have e2 : PySem.StrLaws.sliceText z lo hi =
      PySem.StrLaws.sliceText z (some ((HT.sIx z.length 0 lo : Nat) : Int)) (some ((max (HT.sIx z.length 0 lo) (HT.sIx z.length z.length hi) : Nat) : Int)) := by
    unfold PySem.StrLaws.sliceText
    rw [e]
  rw [e2, PySem.StrLaws.sliceText_nat z hp hq, hd]
  rfl
theorem cutS_length (z : Str) (lo hi : Option Int) : (cutS z lo hi).length ≤ z.length := by
  show (((z.cps.toList.drop (HT.sIx z.length 0 lo)).take (HT.sIx z.length z.length hi - HT.sIx z.length 0 lo)).toArray).size ≤ z.cps.size
  rw [List.size_toArray, List.length_take, List.length_drop, Array.length_toList]
  omega
def rSlS : V → Option Int → Option Int → Hp → VK → Prop := fun x lo hi H Q => ∃ z, x = .str z ∧ z.length ≤ sizeLine ∧ Q (.str (cutS z lo hi)) H
theorem sl_str {X : Cx} : SlR X rSlS := by
  intro pins s σ H x v vl vu lo hi sl Q I rx hs pl pu h
  obtain ⟨z, rfl, hz, q⟩ := h
  obtain ⟨t, rfl⟩ := rx
  obtain ⟨os, hos, hcs, hds⟩ := hs
  obtain ⟨l, rfl, rfl⟩ := IsPart.raw pl
  obtain ⟨u, rfl, rfl⟩ := IsPart.raw pu
  refine ⟨"str", _, F.slot_str_getitem.lookup, typeIs_str _ _ _, ?_⟩
  refine wpAny_getItem_str_slice (l := l) (u := u) (st := none) ⟨os, hos, hcs, hds⟩ rfl ?_
  have hl : (PySem.StrLaws.sliceText z (l.map (·.1)) (u.map (·.1))).length ≤ sizeLine := by
    rw [sliceText_cut]
    exact Nat.le_trans (cutS_length z _ _) hz
  rw [← sliceText_cut] at q
  unfold PySem.StrLaws.sliceText at q hl
  show Made.post (if ((1 : Int) == 1 && (Builtin.Str.strSliceIndices (l.map (·.1)) (u.map (·.1)) 1 z.length).length == z.length) = true then Made.val (.str z t)
    else Made.str ⟨((Builtin.Str.strSliceIndices (l.map (·.1)) (u.map (·.1)) 1 z.length).filterMap (z.cps[·]?)).toArray⟩) (EP X pins σ Q) s
  by_cases c : ((1 : Int) == 1 && (Builtin.Str.strSliceIndices (l.map (·.1)) (u.map (·.1)) 1 z.length).length == z.length) = true
  · rw [if_pos c] at q ⊢
    exact ⟨.str z, H, I, ⟨t, rfl⟩, q⟩
  · rw [if_neg c] at q hl ⊢
    exact ⟨hl, .str _, H, I.tok _, ⟨_, rfl⟩, q⟩
end L2

namespace Att
open PySem PySem.W PySem.Calls PyProof.Rows

/-! ### the script -/
theorem ints_of_wellAll {P : Params} {h : Heap} : ∀ (ns : List Int) (vs : List Value), WellAll P h vs (ns.map WData.int) → IntsAre vs ns := by
  intro ns
  induction ns with
  | nil =>
    intro vs w
    rw [List.map_nil] at w
    cases w
    exact .nil
  | cons n ns ih =>
    intro vs w
    rw [List.map_cons] at w
    cases w with
    | cons a b =>
      cases a
      exact .cons _ _ (ih _ b)

theorem script_of {l : OpenLaw} {n : Nat} (hn : l.most = some n) {P : Params} {h : Heap} {args : List WData} {vals : List Value}
    (hpre : l.row.toRowW.claim.pre args = true) (hwl : WellAll P h vals args) :
    ∃ a vs ns, vals = [Value.ref a] ∧ args = [WData.list (ns.map WData.int)] ∧ h.get? a = some { cls := .type "list", data := .seq vs.toArray } ∧ IntsAre vs ns ∧ ns.length ≤ n := by
  have hsh : WShape.hasAll [] args [.list .int] = true := (pre_splitW hpre).1
  have hc : l.pre.holds [] { args := args } = true := (pre_splitW hpre).2
  obtain ⟨d, r, rfl, h1, h2⟩ := hasAllW_cons hsh
  obtain rfl := hasAllW_nil h2
  obtain ⟨xs, rfl, h3⟩ := hasW_list h1
  obtain ⟨ns, rfl⟩ := items_int h3
  have hlen : ns.length ≤ n := by
    unfold OpenLaw.pre at hc
    have h4 : (WTm.not (.lt (.lit (.int (n : Int))) (.len (.arg 0)))).holds [] { args := [.list (ns.map .int)] } = true := by
      have h4 := (holds_andW hc).1
      rw [hn] at h4
      exact h4
    have h5 := condW_of h4 (w_not (w_lt w_lit (w_len_list (w_arg rfl))))
    rw [List.length_map] at h5
    refine Nat.le_of_not_lt fun q => ?_
    have q' : (n : Int) < ((ns.length : Nat) : Int) := by omega
    first
      | (rw [decide_eq_true q'] at h5; exact absurd h5 (by decide))
      | (simp at h5; omega)
  cases hwl with
  | cons w1 w2 =>
    cases w2
    cases w1 with
    | list ho hall => exact ⟨_, _, ns, rfl, rfl, ho, ints_of_wellAll ns _ hall, hlen⟩

theorem post_true (l : OpenLaw) (args : List WData) : l.row.toRowW.claim.post args (.bool true) args = true :=
  postW_of (r := l.row.toRowW) (X := (true == true))
    (show WShape.has [] (.bool true) .bool = true by first | rfl | decide | simp [WShape.has, WShape.arms, WShape.armsAll])
    (show (WTm.eq .res (.lit (.bool true))).value [] { args := args, res := some (.bool true), after := args } = some (.bool (true == true)) from w_eq_bool (w_res rfl) w_lit) rfl

/-! ### the attachment: holds_open's last premise (the goal 'hc' behind k_head) from a wpAny of the law's body -/
/-- the same from a codeAny of the CALL (for a layer whose function contracts speak of calls) -/
theorem attach_call {l : OpenLaw} {n : Nat} {q : Program} {loose : List Str} {XP : (Str → Option Value) → Heap → Prop} {YP : World → Heap → Prop} {d : DefRec}
    (hn : l.most = some n) (hdf : d.params.defaults = [])
    (call : ∀ (w : World) (s₀ s₁ : Shared) (mg mb : Str → Option Value) (fa : Addr) (o : Obj) (pm cd doc : Value) (a : Addr) (vs : List Value) (ns : List Int),
      Ground q loose [] XP w s₀ mg mb s₁.heap → YP w s₁.heap →
      s₁.heap.get? fa = some o → o.data = .func (docDef d.name d.params d.body d.scope pm cd doc) → s₁.heap.CodeRec cd d.name → mg d.name = some (.ref fa) →
      s₁.heap.get? a = some { cls := .type "list", data := .seq vs.toArray } → IntsAre vs ns → ns.length ≤ n → s₁.gens = #[] →
      codeAny (model l.prog w) callerA (.call (.ref fa) ⟨[.ref a], []⟩) (fun r s' => r = .ok (.ret (.bool true)) ∧ OldK s₁.heap s'.heap ∧ s'.os = s₁.os ∧ AllBare s'.gens) s₁) :
    WalkO q loose XP YP l.row.toRowW d [] (fun f vs => PySem.call f vs) := by
  intro w s₀ s₁ mg mb G Y fa o pm cd doc dV kV ho hd hcd hD hmg hg args vals as hpre hlay hrd hwl hlo
  obtain rfl : dV = .none := Dflts.none hD hdf
  obtain rfl : kV = .none := Dflts.noKw hD
  obtain ⟨a, vs, ns, rfl, rfl, hobj, hints, hlen⟩ := script_of hn hpre hwl
  refine enter_call (codeAny_mono (call w s₀ s₁ mg mb fa o pm cd doc a vs ns G Y ho (fd_plain hd) hcd hmg hobj hints hlen hg) fun r s' hq => ?_)
  obtain ⟨rfl, h2, h3, h4⟩ := hq
  exact ⟨.inl ⟨.bool true, .bool true, [], rfl, fun _ => rfl, .bool true, post_true l _, fun _ => ⟨List.Pairwise.nil, fun _ hm => (nomatch hm)⟩⟩, h2, h3, h4⟩

/-! ### rules over ANY heap (no ledger) from facts about the written part K: the library's own take a ledger (News) for what they write -/
section
variable {prog : Program} {w : World} {A : Around} {E : Value → Shared → Prop} {s : Shared} {K : Frag}

/-! the whole heap as the ledger: makes every rule that writes through a ledger a rule over any heap -/
def ledger (h : Heap) (L d : Addr) : List (Addr × Obj) := (List.range h.objs.size).filterMap fun a => if a = L ∨ a = d then none else (h.get? a).map fun o => (a, o)
end
end Att

namespace L2
open PySem PySem.Spec PyProof.Rows

theorem vals_ints : ∀ {vs : List Value} {ns : List Int}, IntsAre vs ns → Vals (ns.map V.int) vs
  | _, _, .nil => .nil
  | _, _, .cons n t h => .cons ⟨t, rfl⟩ (vals_ints h)

/-- nothing is tracked but the script, known to the object (or it is an object of the module) -/
def Only (H : Hp) : Prop := ∀ b, H b = none ∨ ∃ o xs, H b = some (.frz o (.lst xs))

/-- THE HEAD: the law's promise, at the heap behind the top. F, the promise of the law's def, may use that base is part of the heap (so K.In base, base.Ns mainGlobals mg stand in Mod) -/
theorem law_call {P : Program} {w : World} {K : PySem.W.Frag} {mg mb : Str → Option Value} {CX : CXT} {k : Nat} {fa a : Addr} {fd : FuncData} {x : Str} {sp : Sp} {s₁ : Shared} {vs : List Value} {ns : List Int}
    (KX : K.In s₁.heap) (hns : s₁.heap.Ns mainGlobals mg) (hb : s₁.heap.Ns builtinsNs mb) (hbb : ∀ x : Str, x ≠ "__name__" → mb x = bootBuiltins x) (hlim : s₁.heap.NoLimit) (hg : s₁.gens = #[])
    (ha : s₁.heap.get? a = some { cls := .type "list", data := .seq vs.toArray }) (hi : IntsAre vs ns) (hl : ns.length ≤ sizeLine) (hr : Room k callerA)
    (F : ∀ base : Heap, K.In base → base.Ns mainGlobals mg → FnOk P w K mg base CX k fa fd [x] sp) (hbind : ∀ (s : Shared) (u : Value), BindsTo s fd ⟨[u], []⟩ [(x, u)])
    (hsp : ∀ H : Hp, Only H → SqL K H a (ns.map V.int) → sp [.ref a] H (fun v _ => v = .bl true) fun _ _ _ => False)
    (hCX : ∀ H e s', CX [] H s₁ (fun _ _ _ => False) e s' → False) :
    codeAny (model P w) callerA (.call (.ref fa) ⟨[.ref a], []⟩) (fun r s' => r = .ok (.ret (.bool true)) ∧ OldK s₁.heap s'.heap ∧ s'.os = s₁.os ∧ AllBare s'.gens) s₁ := by
  have rv := vals_ints hi
  have lenV := hi.length
  -- from an abstract heap in which nothing but the script may be tracked
  have core : ∀ H : Hp, Only H → SqL K H a (ns.map V.int) → HOk P w H s₁.heap → (∀ b, H b ≠ none → b = a) → (H a ≠ none → K.lookup a = none) →
      codeAny (model P w) callerA (.call (.ref fa) ⟨[.ref a], []⟩) (fun r s' => r = .ok (.ret (.bool true)) ∧ OldK s₁.heap s'.heap ∧ s'.os = s₁.os ∧ AllBare s'.gens) s₁ := by
    intro H hO hS hok hA hK
    have base_of : ∀ {b : Addr} {o : Obj}, s₁.heap.get? b = some o → H b = none → (hidT s₁.heap H).get? b = some o := fun e n => hidT_get e n
    have noA : ∀ {b : Addr} {o : Obj} {es : Array DictEntry} {ep : Nat}, s₁.heap.get? b = some o → o.data = .dict es ep → H b = none := fun {b o es ep} e d => by
      cases q : H b with
      | none => rfl
      | some u =>
        have e' : b = a := hA b (by rw [q]; simp)
        subst e'
        rw [ha] at e; cases e
        have d' : Data.seq vs.toArray _ = Data.dict es ep := d
        cases d'
    have nsK : ∀ {b : Addr} {m : Str → Option Value}, s₁.heap.Ns b m → (hidT s₁.heap H).Ns b m := fun {b m} ⟨o, es, ep, e, d, r⟩ => ⟨o, es, ep, base_of e (noA e d), d, r⟩
    have hKb : K.In (hidT s₁.heap H) := fun b o e => base_of (KX b o e) (by
      cases q : H b with
      | none => rfl
      | some u =>
        have e' : b = a := hA b (by rw [q]; simp)
        subst e'
        rw [hK (by rw [q]; simp)] at e; cases e)
    have hM : Mod K mg (hidT s₁.heap H) := ⟨hKb, nsK hns, ⟨mb, nsK hb, hbb⟩, let ⟨mc, h1, h2⟩ := hlim; ⟨mc, nsK h1, h2⟩⟩
    have e0 : Env0 P w K mg (hidT s₁.heap H) callerA [] s₁ H := ⟨rfl, hM, fun b o e => of_hidT e, Nat.le_of_eq (hidT_size _ _), trivial, fun b hb => absurd (show b ∈ ([] : List Addr) from hb) (by simp), hok, .of_eq hg⟩
    refine codeAny_mono ((F _ hKb (nsK hns)).run callerA [] s₁ H ⟨[.ref a], []⟩ [.ref a] [.ref a] _ _ hr e0 (hbind s₁ (.ref a)) (.cons rfl .nil) (hsp H hO hS)) fun r s' h => ?_
    cases r with
    | error e => exact (hCX H e s' h).elim
    | ok fl =>
      cases fl with
      | next => exact False.elim h
      | brk => exact False.elim h
      | cont => exact False.elim h
      | ret u =>
        obtain ⟨v, H', os, bare, un, hok', r', q⟩ := h
        have q' : v = .bl true := q
        subst q'
        obtain rfl : u = Value.bool true := r'
        refine ⟨rfl, OldK.of_keep fun b o e => ?_, os, bare⟩
        cases q : H b with
        | none => exact un.keep b o e q (by intro z; exact absurd (show b ∈ ([] : List Addr) from z) (by simp)) (by simp)
        | some u =>
          rcases hO b with z | ⟨ob, xs, z⟩
          · rw [q] at z; cases z
          · have z2 := un.frzs b ob _ z
            obtain ⟨e1, _⟩ := hok b _ z
            obtain ⟨e2, _⟩ := hok' b _ z2
            rw [e] at e1; cases e1
            exact e2
  cases hk : K.lookup a with
  | some o =>
    -- the script is one of the module's own objects
    have e := KX a o hk
    rw [ha] at e
    cases e
    refine core (fun _ => none) (fun _ => .inl rfl) (.inr ⟨_, vs.toArray, _, hk, rfl, rfl, rfl, by rw [List.size_toArray, lenV]; exact hl, by simpa using rv⟩) (fun b u z => by have z' : (none : Option HO) = some u := z; cases z') (fun b z => absurd rfl z) fun z => absurd rfl z
  | none =>
    refine core (fun b => if b = a then some (.frz { cls := .type "list", data := .seq vs.toArray } (.lst (ns.map V.int))) else none) (fun b => ?_) (.inl (.inr ⟨{ cls := .type "list", data := .seq vs.toArray }, if_pos rfl⟩)) (fun b u z => ?_) (fun b z => ?_) fun _ => hk
    · by_cases hb : b = a
      · exact .inr ⟨_, _, if_pos hb⟩
      · exact .inl (if_neg hb)
    · by_cases hb : b = a
      · have z' := (if_pos hb).symm.trans z
        cases z'
        subst hb
        exact ⟨ha, by rw [List.length_map]; exact hl, vs, _, rv, ha⟩
      · have z' := (if_neg hb).symm.trans z
        cases z'
    · by_cases hb : b = a
      · exact hb
      · exact absurd (if_neg hb) z
end L2

namespace L2
open PySem PySem.Spec PyProof.Rows

abbrev KOf {K : PySem.W.Frag} {h : Heap} (_ : K.In h) : PySem.W.Frag := K

/-- the goal that k_head leaves (case hc), from the law's promise. F gives the function object fd (K's own) once, then the promise over every base -/
theorem walk_of {l : PySem.W.OpenLaw} {n k : Nat} {q : Program} {loose : List Str} {XP : (Str → Option Value) → Heap → Prop} {YP : World → Heap → Prop} {d : DefRec} {K : Params → PySem.W.Frag} {CX : World → CXT} {sp : World → Sp} {x : Str}
    (hn : l.most = some n) (hn2 : n ≤ sizeLine) (hdf : d.params.defaults = []) (hr : Room k callerA)
    (hY : ∀ (w : World) (h : Heap), YP w h → (K w.params).In h)
    (F : ∀ (w : World) (mg : Str → Option Value) (fa : Addr) (h : Heap), (K w.params).In h → h.Ns mainGlobals mg → mg d.name = some (.ref fa) →
      ∃ fd : FuncData, (∀ (s : Shared) (u : Value), BindsTo s fd ⟨[u], []⟩ [(x, u)]) ∧
        ∀ base : Heap, (K w.params).In base → base.Ns mainGlobals mg → FnOk l.prog w (K w.params) mg base (CX w) k fa fd [x] (sp w))
    (hsp : ∀ (w : World) (H : Hp) (a : Addr) (ns : List Int), ns.length ≤ n → Only H → SqL (K w.params) H a (ns.map V.int) → sp w [.ref a] H (fun v _ => v = .bl true) fun _ _ _ => False)
    (hCX : ∀ (w : World) (H : Hp) (s : Shared) (e : Value) (s' : Shared), CX w [] H s (fun _ _ _ => False) e s' → False) :
    PySem.W.WalkO q loose XP YP l.row.toRowW d [] (fun f vs => PySem.call f vs) := by
  refine Att.attach_call hn hdf fun w s₀ s₁ mg mb fa o pm cd doc a vs ns G Y ho hd hcd hmg hobj hints hlen hg => ?_
  have KX := hY w _ Y
  obtain ⟨fd, hb, hF⟩ := F w mg fa _ KX G.T.g hmg
  exact law_call KX G.T.g G.T.b G.T.builtins G.T.nolimit hg hobj hints (Nat.le_trans hlen hn2) hr hF hb (fun H hO hS => hsp w H a ns hlen hO hS) fun H e s' => hCX w H s₁ e s'
end L2

/- THE LAST THEOREM (shape; LID, My.* are yours):
   My.Adr: a structure of the addresses that your layer names (classes, functions); My.Txt K t: a structure (Prop) of the equations over K;
   My.txt_mk : {K} {implicit addresses ..} (e1 : nsIn K mainGlobals "law" = some (some (.ref f))) (e2 : K.lookup f = some ⟨oc, od, .func (fnOf "law" "law" params body scope dV kV doc pm an cdv ct), sl⟩) (e3 : codeIn K cdv "law" = true) .. : ∃ t, My.Txt K t

set_option maxRecDepth 100000 in
set_option maxHeartbeats 0 in
theorem PySem.Challenge.cw_LID_holds : PySem.Challenge.rw_LID.Holds := by
  w_on; o_law; k_head; (case hw => w_witness2)
  k_fill
  refine L2.walk_of (l := PySem.Challenge.rw_LID) (n := 63) (k := 40) (x := "script") (CX := fun w => ..) (sp := fun _ => My.sp_law) rfl (by decide) rfl ⟨rfl, by decide, by decide⟩ (fun w h Y => PySem.W.kIn_of Y) ?F ?S ?C
  case F =>
    intro w mg fa h KX G hmg
    have T : ∃ t, My.Txt (L2.KOf KX) t := by
      dsimp only [L2.KOf]                          -- K must stand as «<heap const> w.params» for k_is
      refine' My.txt_mk ?e1 ?e2 ?e3 ..
      (case e1 => PySem.W.k_is)                    -- in the order: a name -> its address -> its object -> its parts
      (case e2 => PySem.W.k_is)
      ..
    obtain ⟨t, T⟩ := T
    have e0 := hmg.symm.trans (PySem.W.mg_of KX G T.law)
    cases e0                                       -- fa is the law's own address
    exact ⟨_, fun s u => .of_eq rfl, fun base kb nb => My.law_fn T kb nb⟩     -- if «.of_eq rfl» comes too early: refine' ⟨_, ?b, fun base kb nb => My.law_fn T kb nb⟩; exact fun s u => .of_eq rfl
  case S => exact fun w H a ns hl hO hS => ..
  case C => exact ..
(the tactic k_is has no namespace: write k_is) -/

/-! SHORT WORDS over the layer: a def of the text, its body, what a loop and a test want. -/
namespace L2
open PySem PySem.Spec PyProof.Rows

/-! ### the text by places -/
def defArgs (s : Stmt) : Arguments := match s with
  | .FunctionDef _ a _ _ _ _ _ _ _ _ => a
  | _ => { posonlyargs := [], args := [], vararg := none, kwonlyargs := [], kw_defaults := [], kwarg := none, defaults := [] }
def defBody (s : Stmt) : List Stmt := match s with
  | .FunctionDef _ _ b _ _ _ _ _ _ _ => b
  | _ => []
def defScope (s : Stmt) : Scope := match s with
  | .FunctionDef _ _ _ _ _ _ sc _ _ _ => sc
  | _ => { kind := .function, names := [], isGenerator := false, isCoroutine := false }

/-! ### no exception leaves a def -/
abbrev CX0 : CXT := fun _ _ _ _ _ _ => False
abbrev E0 : XK := fun _ _ _ => False
theorem pass0 {X : Cx} : Passes CX0 X E0 := fun _ _ _ _ _ _ _ h => h.elim

/-! ### a def (or method) of the text as it stands behind the top -/
structure Fun (K : PySem.W.Frag) (x qual : Str) (st : Stmt) (f : Addr) (fd : FuncData) : Prop where
  ex : ∃ (oc : Value) (od : Option Addr) (kV doc pm : Value) (an : Option Addr) (cdv ct : Value) (osl : Array (Option Value)),
    fd = PySem.W.fnOf x qual (defArgs st) (defBody st) (defScope st) .none kV doc pm an cdv ct ∧ K.lookup f = some ⟨oc, od, .func fd, osl⟩ ∧ PySem.W.codeIn K cdv qual = true
  kp : PySem.W.keepIn K (.ref f) = true
section
variable {P : Program} {w : World} {K : PySem.W.Frag} {mg : Str → Option Value} {base : Heap}
/-- THE RULE for a def: its body as a term of rules, and the reading of that term -/
theorem Fun.ok {x qual : Str} {st : Stmt} {f : Addr} {fd : FuncData} {N ps : List Str} {k : Nat} {sp : Sp} (F : Fun K x qual st f fd) (S : FnScope N ps (defScope st)) (len : ∀ vs H Q E, sp vs H Q E → vs.length = ps.length)
    (hbody : ∀ (cdv : Value) (A : Around) (outer : List Env) (s : Shared) (H : Hp) (vs : List V) (Q : VK) (E : XK), Room k (A.deeper (envOfC qual (defScope st) s.heap.objs.size f cdv)) → sp vs H Q E →
      ∃ t, PSs (cxOf CX0 P w K mg base N qual (defScope st) f cdv A outer s H E).nox (defBody st) t ∧ t { nx := fun _ H' => Q .non H', rt := Q } (start N vs) H) : FnOk P w K mg base CX0 (k + 1) f fd ps sp := by
  obtain ⟨oc, od, kV, doc, pm, an, cdv, ct, osl, rfl, lk, hcd⟩ := F.ex
  refine fn_of lk hcd S len fun A outer s H vs Q E hr hsp => ?_
  obtain ⟨t, h, q⟩ := hbody cdv A outer s H vs Q E hr hsp
  exact ⟨t, h.nox, q⟩
/-- how its arguments bind (no defaults): h is «fun _ _ _ _ _ _ us hl => match us, hl with | [_, _], _ => rfl», one _ a parameter -/
theorem Fun.binds {x qual : Str} {st : Stmt} {f : Addr} {fd : FuncData} {ps : List Str} (F : Fun K x qual st f fd)
    (h : ∀ (kV doc pm : Value) (an : Option Addr) (cdv ct : Value) (us : List Value), us.length = ps.length → bindArgs (PySem.W.fnOf x qual (defArgs st) (defBody st) (defScope st) .none kV doc pm an cdv ct) ⟨us, []⟩ = pure (ps.zip us)) : Binds K fd ps [] := by
  obtain ⟨oc, od, kV, doc, pm, an, cdv, ct, osl, rfl, lk, hcd⟩ := F.ex
  exact .all (h kV doc pm an cdv ct)
theorem fun_mk {x qual : Str} {st : Stmt} {f : Addr} {oc : Value} {od an : Option Addr} {osl : Array (Option Value)} {kV doc pm cdv ct : Value} (l : K.lookup f = some ⟨oc, od, .func (PySem.W.fnOf x qual (defArgs st) (defBody st) (defScope st) .none kV doc pm an cdv ct), osl⟩)
    (c : PySem.W.codeIn K cdv qual = true) (k : PySem.W.keepIn K (.ref f) = true) : Fun K x qual st f (PySem.W.fnOf x qual (defArgs st) (defBody st) (defScope st) .none kV doc pm an cdv ct) := ⟨⟨oc, od, kV, doc, pm, an, cdv, ct, osl, rfl, l, c⟩, k⟩
end
/-! ### expressions in short: the name that stands in the i-th slot -/
section
variable {X : Cx}
theorem pv (i : Nat) {x : Str} {pos : Pos} (hN : X.N[i]? = some x := by rfl) (hv : Vis X.env.scope x := by first | exact Or.inl rfl | exact Or.inr (Or.inl rfl) | exact Or.inr (Or.inr rfl)) (hd : (x == ("__debug__" : Str)) = false := by decide)
    (hcd : (x == ("__classdict__" : Str)) = false := by decide) : PE X (.Name x pos) (tVar i) := pe_var hN hv hd hcd
end

/-! ### tests -/
theorem iteF {A B : Prop} (h : B) : if false = true then A else B := by
  rw [if_neg Bool.false_ne_true]
  exact h
theorem iteT {A B : Prop} (h : A) : if true = true then A else B := by
  rw [if_pos rfl]
  exact h
theorem ite2 {c A B : Prop} [Decidable c] (h1 : c → A) (h2 : ¬ c → B) : if c then A else B := by
  by_cases h : c
  · rw [if_pos h]
    exact h1 h
  · rw [if_neg h]
    exact h2 h
theorem iteNS {c A B : Prop} [Decidable c] (hc : c) (h : B) : if (!decide c) = true then A else B := by
  rw [decide_eq_true hc]
  exact iteF h

/-! ### heaps -/
/-- all that was tracked is as it was -/
def Same (H H' : Hp) : Prop := ∀ b o, H b = some o → H' b = some o
theorem Same.refl (H : Hp) : Same H H := fun _ _ h => h
theorem Same.trans {H H1 H2 : Hp} (a : Same H H1) (b : Same H1 H2) : Same H H2 := fun c o h => b c o (a c o h)
theorem Same.free {H H' : Hp} (e : Same H H') {l : Addr} (h : H' l = Option.none) : H l = Option.none := by
  cases q : H l with
  | none => rfl
  | some o =>
    rw [e l o q] at h
    cases h
theorem Same.seq {K : PySem.W.Frag} {H H' : Hp} {a : Addr} {xs : List V} (e : Same H H') (h : SqL K H a xs) : SqL K H' a xs := by
  rcases h with (h | ⟨o, h⟩) | h
  · exact .inl (.inl (e _ _ h))
  · exact .inl (.inr ⟨o, e _ _ h⟩)
  · exact .inr h

/-! ### a dict's pairs: keys that differ -/
section
variable {κ : Type} [DecidableEq κ]
theorem nd_snoc : ∀ {l : List κ} {k : κ}, l.Nodup → ¬ k ∈ l → (l ++ [k]).Nodup
  | [], k, _, _ => by simp
  | a :: r, k, h, hk => by
    obtain ⟨h1, h2⟩ := List.nodup_cons.mp h
    show (a :: (r ++ [k])).Nodup
    refine List.nodup_cons.mpr ⟨fun m => ?_, nd_snoc h2 fun m => hk (List.mem_cons.mpr (Or.inr m))⟩
    rcases List.mem_append.mp m with q | q
    · exact h1 q
    · exact hk (List.mem_cons.mpr (Or.inl (List.mem_singleton.mp q).symm))
end
/-! ### lists -/
theorem at_of {xs : List V} {z : Int} {j : Nat} {v : V} (e : z = (j : Int)) (h : xs[j]? = some v) : atI xs z = some v := by
  rw [e]
  exact atI_nat h
/-- a new instance and its __init__ leave all that was tracked as it was -/
theorem Same.made {H H1 : Hp} {x dx C : Addr} (nx : H x = Option.none) (nd : H dx = Option.none) (k : ∀ b o, (upd (upd H dx (.own x)) x (.ins C dx [])) b = some o → b ≠ x → H1 b = some o) : Same H H1 := fun b o e =>
  k b o (by rw [upd_ne (ne_of_none e nx), upd_ne (ne_of_none e nd)]; exact e) (ne_of_none e nx)
end L2

/-! Rules beside the hand layer: str.index of one sign, a text turned about, isinstance. -/
namespace L2
open PySem PySem.Spec PyProof.Rows
section
variable {X : Cx}

/-- the first place of a sign in a text -/
theorem at_one {x : Str} {c i : Nat} : PySem.StrLaws.At x ⟨#[c]⟩ x.length i ↔ x.cps[i]? = some c := by
  rw [TL.at_iff (by show [c] ≠ []; simp)]
  show TL.pre [c] (x.cps.toList.drop i) = true ↔ _
  unfold TL.pre
  rw [← Array.getElem?_toList]
  cases e : x.cps.toList.drop i with
  | nil =>
    have : x.cps.toList[i]? = none := by
      have h := List.drop_eq_nil_iff.mp e
      exact List.getElem?_eq_none h
    rw [this]; simp
  | cons a r =>
    have : x.cps.toList[i]? = some a := by
      have h : (x.cps.toList.drop i)[0]? = some a := by rw [e]; rfl
      rw [List.getElem?_drop] at h; simpa using h
    rw [this]; simp
theorem occ_one {x : Str} {c : Nat} (h : c ∈ x.cps.toList) : ∃ rest, Builtin.Str.occurrences x ⟨#[c]⟩ 0 x.length 1 = x.cps.toList.idxOf c :: rest := by
  have hi : x.cps.toList[x.cps.toList.idxOf c]? = some c := by
    rw [List.getElem?_eq_getElem (List.idxOf_lt_length_of_mem h)]
    simp
  rcases PySem.StrLaws.occ_head x ⟨#[c]⟩ 1 (Nat.le_refl _) with ⟨_, h0⟩ | ⟨i, r, e, ha, hn⟩
  · exact absurd (at_one.mpr (by rw [← Array.getElem?_toList]; exact hi)) (h0 _)
  · refine ⟨r, ?_⟩
    rw [e]
    have hx : x.cps.toList[i]? = some c := by rw [Array.getElem?_toList]; exact at_one.mp ha
    have h1 : ¬ x.cps.toList.idxOf c < i := fun q => hn _ q (at_one.mpr (by rw [← Array.getElem?_toList]; exact hi))
    have h2 : x.cps.toList.idxOf c ≤ i := by
      have hlt := (List.getElem?_eq_some_iff.mp hx)
      obtain ⟨hl, he⟩ := hlt
      apply Nat.le_of_not_lt
      intro q
      have := List.not_of_lt_findIdx q
      simp [he] at this
    have : i = x.cps.toList.idxOf c := by omega
    rw [this]
/-- x.index(c), c one sign that is there -/
theorem mt_sindex : MtR X "str.index" (fun x xs H Q => ∃ a c, x = .str a ∧ xs = [.str ⟨#[c]⟩] ∧ c ∈ a.cps.toList ∧ Q (.int (a.cps.toList.idxOf c : Nat)) H) := by
  intro pins s σ H x xs v us Q I rx rs h
  obtain ⟨a, c, rfl, rfl, hc, h⟩ := h
  obtain ⟨t, rfl⟩ := rx
  cases rs with
  | cons r1 rs =>
    cases rs
    obtain ⟨u, rfl⟩ := r1
    obtain ⟨rest, e⟩ := occ_one hc
    exact PySem.SC.index e ⟨.int (a.cps.toList.idxOf c : Nat), H, I.tok _, ⟨_, rfl⟩, h⟩
theorem pe_sindex {o e : Expr} {to te : TE} {apos pos : Pos} (ho : PE X o to) (he : PE X e te) (hs : starEach [e] X.env = [(false, eval e X.env)] := by rfl) (hbase : attributeBase o "index" X.env (eval o X.env) = eval o X.env := by rfl) (hline : (apos.endLine == pos.line) = true := by rfl) :
    PE X (.Call (.Attribute o "index" apos) [e] [] pos) (tM1 (fun x xs H Q => ∃ a c, x = .str a ∧ xs = [.str ⟨#[c]⟩] ∧ c ∈ a.cps.toList ∧ Q (.int (a.cps.toList.idxOf c : Nat)) H) to te) :=
  pe_m1 F.slot_str_index F.type_str_index mt_sindex ho he hs hbase hline

theorem fm_congr {α β : Type} {f g : α → Option β} : ∀ {l : List α}, (∀ a ∈ l, f a = g a) → l.filterMap f = l.filterMap g
  | [], _ => rfl
  | a :: r, h => by
    rw [List.filterMap_cons, List.filterMap_cons, h a (List.mem_cons_self ..), fm_congr fun b hb => h b (List.mem_cons_of_mem _ hb)]
theorem fm_range {α : Type} : ∀ l : List α, (List.range l.length).filterMap (fun k => l[k]?) = l
  | [] => rfl
  | a :: r => by
    rw [List.length_cons, List.range_succ_eq_map, List.filterMap_cons, List.filterMap_map]
    show a :: _ = _
    congr 1
    exact fm_range r
/-- z[::-1] -/
theorem sidx_rev (n : Nat) : Builtin.Str.strSliceIndices none none (-1) n = (List.range n).map (fun k => n - 1 - k) := by
  have h1 : ¬ ((-1 : Int) > 0) := by decide
  simp only [Builtin.Str.strSliceIndices, sliceRange, if_neg h1]
  by_cases h : (n : Int) - 1 > -1
  · rw [if_pos h]
    have e : (((n : Int) - 1 - -1 - -1 - 1) / (- -1)).toNat = n := by
      have e1 : ((n : Int) - 1 - -1 - -1 - 1) = n := by omega
      rw [e1, show (- -1 : Int) = 1 from rfl, Int.ediv_one]
      rfl
    rw [e]
    refine List.map_congr_left fun k hk => ?_
    have := List.mem_range.mp hk
    omega
  · rw [if_neg h]
    have : n = 0 := by omega
    subst this
    rfl
def revS (z : Str) : Str := ⟨z.cps.toList.reverse.toArray⟩
theorem picked_rev (z : Str) : ((Builtin.Str.strSliceIndices none none (-1) z.length).filterMap (z.cps[·]?)).toArray = z.cps.toList.reverse.toArray := by
  congr 1
  rw [sidx_rev]
  have hz : z.length = z.cps.toList.length := by show z.cps.size = _; simp
  rw [hz]
  generalize hl : z.cps.toList = l
  have hg : ∀ i : Nat, z.cps[i]? = l[i]? := fun i => by rw [← hl, Array.getElem?_toList]
  have : ((List.range l.length).map (fun k => l.length - 1 - k)).filterMap (z.cps[·]?) = ((List.range l.length).map (fun k => l.length - 1 - k)).filterMap (l[·]?) := by
    simp only [hg]
  rw [this]
  clear this hg hl hz
  rw [List.filterMap_map]
  have key : ∀ k ∈ List.range l.length, ((fun x => l[x]?) ∘ fun k => l.length - 1 - k) k = l.reverse[k]? := fun k hk => by
    have := List.mem_range.mp hk
    show l[l.length - 1 - k]? = _
    rw [List.getElem?_reverse this]
  rw [fm_congr key]
  have e := fm_range l.reverse
  rw [List.length_reverse] at e
  exact e
def tRev (te : TE) : TE := fun σ H Q => te σ H fun x H1 => ∃ z, x = .str z ∧ z.length ≤ sizeLine ∧ Q (.str (revS z)) H1
theorem pe_rev {e : Expr} {te : TE} {p0 p1 p2 pos : Pos} {k : Nat} (he : PE X e te) : PE X (.Subscript e (.Slice none none (some (.UnaryOp .USub (.Constant (.int 1) k p0) p1)) p2) pos) (tRev te) := by
  intro pins s σ H Q I h
  refine Subscript_ (thn (he pins s σ H _ I h) fun v s1 ⟨x, H1, I1, r1, z, ex, hz, q1⟩ => ?_)
  subst ex
  obtain ⟨t, rfl⟩ := r1
  refine wpAny_Slice ?_
  rw [evalPart_none, evalPart_some]
  refine wpAny_pure (wpAny_pure ?_)
  refine thn (pe_un (r := rU fun i => .int (-i)) un_neg pe_int pins s1 σ H1 (fun x H' => x = .int (-1) ∧ H' = H1) I1 ⟨1, rfl, rfl, rfl⟩) fun u s2 ⟨y, H2, I2, r2, ey, eH⟩ => ?_
  subst ey
  subst eH
  obtain ⟨t2, rfl⟩ := r2
  have I4 : Inv X pins σ H2 { s2 with heap := s2.heap.push { cls := .type "slice", data := .fields #[.none, .none, .int (-1) t2] } } := I2.kept (t' := s2.toks) fun b ob q => Heap.get?_push_of_some _ q
  have hg : wpAny (model X.prog X.w) X.A (getItem (.str z t) (.ref s2.heap.objs.size)) (EP X pins σ Q) X.xe { s2 with heap := s2.heap.push { cls := .type "slice", data := .fields #[.none, .none, .int (-1) t2] } } := by
    refine wpAny_getItem_str_slice (l := none) (u := none) (st := some (-1, t2)) ⟨_, Heap.get?_push_size _ rfl, rfl, rfl⟩ rfl ?_
    show Made.post (if (((-1 : Int)) == 1 && (Builtin.Str.strSliceIndices none none (-1) z.length).length == z.length) = true then Made.val (.str z t) else Made.str ⟨((Builtin.Str.strSliceIndices none none (-1) z.length).filterMap (z.cps[·]?)).toArray⟩) (EP X pins σ Q) _
    rw [if_neg (by simp), picked_rev]
    refine ⟨?_,   .str (revS z), H2, I4.tok _, ⟨_, rfl⟩, q1⟩
    show (z.cps.toList.reverse.toArray).size ≤ sizeLine
    have : z.cps.size ≤ sizeLine := hz
    simpa using this
  exact tail_any (ops := [.ref s2.heap.objs.size, .str z t]) (typeIs_str _ z t) F.slot_str_getitem.lookup hg (by with_unfolding_all rfl)

/-- isinstance(x, T), T a built-in type -/
theorem call_isinst : CallR X (.builtin "isinstance") (fun vs H Q => ∃ x T t b, vs = [x, .ty T] ∧ TyOf X.K H x t ∧ PySem.W.kitOne X.K t (.type T) = some b ∧ Q (.bl b) H) := by
  intro pins s σ H xs us Q I r h
  obtain ⟨x, T, t, b, rfl, ty, e, q⟩ := h
  obtain ⟨u, u2, rfl, r1, r2⟩ := vals2 r
  cases r2
  exact isinst_ok I r1 ty e fun tk => ⟨.bl b, H, I.tok tk, rfl, q⟩
end
end L2

/-! zip of two texts. -/
namespace PySem
open Sem (wp)
section
variable {prog : Program} {w : World} {A : Around} {E : Value → Shared → Prop} {s : Shared}
theorem zip_next_itemS {z TI TO i1 i2 : Addr} {n1 n2 k : Nat} {P1 P2 : Nat → Value → Prop} {S1 S2 : Nat → Heap → Prop} {a b : Value} {Q : Value → Shared → Prop} (D : ZipApart z TI TO i1 i2 TI TI)
    (D1 : Draws prog w A i1 [i1] n1 P1 S1) (D2 : Draws prog w A i2 [i2] n2 P2 S2)
    (hz : IsZip s.heap z TI TO .none) (hTI : IsPair s.heap TI (.ref i1) (.ref i2)) (hTO : IsPair s.heap TO a b)
    (h1 : S1 k s.heap) (h2 : S2 k s.heap) (hx : k < n1) (hy : k < n2)
    (hQ : ∀ x y h' tk, P1 k x → P2 k y → IsZip h' z TI TO (rawInt s.heap.objs.size) → IsPair h' TO x y → S1 (k + 1) h' → S2 (k + 1) h' → IsPair h' s.heap.objs.size x y → h'.objs.size = s.heap.objs.size + 1 →
      (∀ c o, c ≠ z → c ≠ TO → c ≠ i1 → c ≠ i2 → s.heap.get? c = some o → h'.get? c = some o) → Q (.ref s.heap.objs.size) { s with heap := h', toks := tk }) :
    wpAny (model prog w) A (Builtin.«zip.__next__» ⟨[.ref z], []⟩) (fun fin s' => ∃ v, fin = .done (.ret v) ∧ Q v s') E s := by
  have f1 : ∀ {i : Nat} {h h' : Heap}, S1 i h → (∀ o, h.get? i1 = some o → h'.get? i1 = some o) → S1 i h' := fun st q => D1.frame _ _ _ st fun b hb o e => by
    rw [List.mem_singleton.mp hb] at e ⊢; exact q o e
  have f2 : ∀ {i : Nat} {h h' : Heap}, S2 i h → (∀ o, h.get? i2 = some o → h'.get? i2 = some o) → S2 i h' := fun st q => D2.frame _ _ _ st fun b hb o e => by
    rw [List.mem_singleton.mp hb] at e ⊢; exact q o e
  show wpAny _ _ (field (.ref z) 2 >>= _) _ _ _
  refine wpAny_bind (wpAny_field hz rfl (x := .bool false) rfl ?_)
  show wpAny _ _ (field (.ref z) 3 >>= _) _ _ _
  refine wpAny_bind (wpAny_field hz rfl (x := .ref TI) rfl ?_)
  refine wpAny_bind (wpAny_seqItems hTI rfl ?_)
  show wpAny _ _ (Builtin.SmallTypes.ownedTupleIsFree (.ref z) >>= _) _ _ _
  refine wpAny_bind ?_
  unfold Builtin.SmallTypes.ownedTupleIsFree
  refine wpAny_bind (wpAny_field hz rfl (x := .none) rfl (wpAny_pure ?_))
  simp only [if_true]
  refine wpAny_bind (wpAny_rule ?_)
  refine wpAny_bind (wpAny_field hz rfl (x := .ref TO) rfl ?_)
  refine wpAny_bind (wpAny_setField_rec hz (by simp) fun h₁ hz₁ hs₁ => ?_)
  replace hz₁ : IsZip h₁ z TI TO .ellipsis := hz₁
  refine wpAny_bind ?_
  simp only [List.zipIdx_cons, List.zipIdx_nil, List.forIn_cons, List.forIn_nil]
  refine wpAny_bind (wpAny_bind (wpAny_onRaise ?_))
  show wpAny _ _ (Builtin.SmallTypes.nextOf (.ref i1) >>= _) _ _ _
  refine wpAny_bind (D1.item k _ _ _ hx (f1 h1 fun o e => hs₁.extBut _ _ D.i1z e) fun x h₂ tk₂ px h1₂ hs₂ => wpAny_pure ?_)
  have hTO₂ : IsPair h₂ TO a b := hs₂.extBut _ _ D.TOi1 (hs₁.extBut _ _ D.TOz hTO)
  refine wpAny_bind (wpAny_seqItems hTO₂ rfl ?_)
  refine wpAny_bind (wpAny_updateSeq_pair hTO₂ fun h₃ hTO₃ hs₃ => ?_)
  replace hTO₃ : IsPair h₃ TO x b := hTO₃
  refine wpAny_bind (wpAny_letGo (wpAny_pure ?_))
  refine wpAny_bind (wpAny_bind (wpAny_onRaise ?_))
  show wpAny _ _ (Builtin.SmallTypes.nextOf (.ref i2) >>= _) _ _ _
  refine wpAny_bind (D2.item k _ _ _ hy (f2 h2 fun o e => hs₃.extBut _ _ D.TOi2.symm (hs₂.extBut _ _ D.i12.symm (hs₁.extBut _ _ D.i2z e))) fun y h₄ tk₄ py h2₄ hs₄ => wpAny_pure ?_)
  have hTO₄ : IsPair h₄ TO x b := hs₄.extBut _ _ D.TOi2 hTO₃
  refine wpAny_bind (wpAny_seqItems hTO₄ rfl ?_)
  refine wpAny_bind (wpAny_updateSeq_pair hTO₄ fun h₅ hTO₅ hs₅ => ?_)
  replace hTO₅ : IsPair h₅ TO x y := hTO₅
  refine wpAny_bind (wpAny_letGo (wpAny_pure (wpAny_pure ?_)))
  refine wpAny_bind (wpAny_seqItems hTO₅ rfl ?_)
  refine wpAny_bind (wpAny_newTuple ?_)
  have hsz : h₅.objs.size = s.heap.objs.size := by rw [hs₅.1, hs₄.1, hs₃.1, hs₂.1, hs₁.1]
  have hz₅ : IsZip h₅ z TI TO .ellipsis := hs₅.extBut _ _ D.TOz.symm (hs₄.extBut _ _ D.i2z.symm (hs₃.extBut _ _ D.TOz.symm (hs₂.extBut _ _ D.i1z.symm hz₁)))
  have hk₅ : ∀ c o, c ≠ z → c ≠ TO → c ≠ i1 → c ≠ i2 → s.heap.get? c = some o → h₅.get? c = some o := fun c o c1 c2 c3 c4 e =>
    hs₅.extBut _ _ c2 (hs₄.extBut _ _ c4 (hs₃.extBut _ _ c2 (hs₂.extBut _ _ c3 (hs₁.extBut _ _ c1 e))))
  have h1₅ : S1 (k + 1) h₅ := f1 h1₂ fun o e => hs₅.extBut _ _ D.TOi1.symm (hs₄.extBut _ _ D.i12 (hs₃.extBut _ _ D.TOi1.symm e))
  have h2₅ : S2 (k + 1) h₅ := f2 h2₄ fun o e => hs₅.extBut _ _ D.TOi2.symm e
  have hzlt : z < h₅.objs.size := Heap.lt_size hz₅
  have hTOlt : TO < h₅.objs.size := Heap.lt_size hTO₅
  show wpAny _ _ (Builtin.SmallTypes.ownedTupleHandOut (.ref z) (.ref h₅.objs.size) >>= _) _ _ _
  refine wpAny_bind ?_
  unfold Builtin.SmallTypes.ownedTupleHandOut
  have hz₆ : IsZip (h₅.push { cls := .type "tuple", data := .seq #[x, y] }) z TI TO .ellipsis := Heap.get?_push_of_some _ hz₅
  refine wpAny_bind (wpAny_setField_rec hz₆ (by simp) fun h₇ hz₇ hs₇ => ?_)
  replace hz₇ : IsZip h₇ z TI TO (rawInt h₅.objs.size) := hz₇
  refine wpAny_setField_rec hz₇ (by simp) fun h₈ hz₈ hs₈ => ?_
  replace hz₈ : IsZip h₈ z TI TO (rawInt h₅.objs.size) := hz₈
  have up : ∀ c o, c ≠ z → h₅.get? c = some o → h₈.get? c = some o := fun c o c1 e => hs₈.extBut _ _ c1 (hs₇.extBut _ _ c1 (Heap.get?_push_of_some _ e))
  have hT₈ : IsPair h₈ h₅.objs.size x y := hs₈.extBut _ _ (Nat.ne_of_gt hzlt) (hs₇.extBut _ _ (Nat.ne_of_gt hzlt) (Heap.get?_push_size _ rfl))
  have hz8 : h₈.objs.size = h₅.objs.size + 1 := by rw [hs₈.1, hs₇.1, Heap.size_push]
  rw [hsz] at hz₈ hT₈ hz8
  refine wpAny_pure ⟨_, rfl, ?_⟩
  show Q (.ref h₅.objs.size) _
  rw [hsz]
  exact hQ x y h₈ tk₄ px py hz₈ (up _ _ D.TOz hTO₅) (f1 h1₅ fun o e => up _ o D.i1z e) (f2 h2₅ fun o e => up _ o D.i2z e) hT₈ hz8 fun c o c1 c2 c3 c4 e => up c o c1 (hk₅ c o c1 c2 c3 c4 e)

theorem zip_next_endS {z TI TO i1 i2 : Addr} {n1 n2 k : Nat} {P1 P2 : Nat → Value → Prop} {S1 S2 : Nat → Heap → Prop} {a b : Value} {Q : Fin → Shared → Prop} (D : ZipApart z TI TO i1 i2 TI TI)
    (D1 : Draws prog w A i1 [i1] n1 P1 S1) (D2 : Draws prog w A i2 [i2] n2 P2 S2)
    (hz : IsZip s.heap z TI TO .none) (hTI : IsPair s.heap TI (.ref i1) (.ref i2)) (hTO : IsPair s.heap TO a b)
    (h1 : S1 k s.heap) (h2 : S2 k s.heap) (hend : (k = n1) ∨ (k < n1 ∧ k = n2))
    (hE : ∀ h' e tk, (∀ c o, c ≠ z → c ≠ TO → c ≠ i1 → c ≠ i2 → s.heap.get? c = some o → h'.get? c = some o) → (∃ o, h'.get? e = some o ∧ o.cls = .type "StopIteration") → E (.ref e) { s with heap := h', toks := tk }) :
    wpAny (model prog w) A (Builtin.«zip.__next__» ⟨[.ref z], []⟩) Q E s := by
  have f1 : ∀ {i : Nat} {h h' : Heap}, S1 i h → (∀ o, h.get? i1 = some o → h'.get? i1 = some o) → S1 i h' := fun st q => D1.frame _ _ _ st fun b hb o e => by
    rw [List.mem_singleton.mp hb] at e ⊢; exact q o e
  have f2 : ∀ {i : Nat} {h h' : Heap}, S2 i h → (∀ o, h.get? i2 = some o → h'.get? i2 = some o) → S2 i h' := fun st q => D2.frame _ _ _ st fun b hb o e => by
    rw [List.mem_singleton.mp hb] at e ⊢; exact q o e
  show wpAny _ _ (field (.ref z) 2 >>= _) _ _ _
  refine wpAny_bind (wpAny_field hz rfl (x := .bool false) rfl ?_)
  show wpAny _ _ (field (.ref z) 3 >>= _) _ _ _
  refine wpAny_bind (wpAny_field hz rfl (x := .ref TI) rfl ?_)
  refine wpAny_bind (wpAny_seqItems hTI rfl ?_)
  show wpAny _ _ (Builtin.SmallTypes.ownedTupleIsFree (.ref z) >>= _) _ _ _
  refine wpAny_bind ?_
  unfold Builtin.SmallTypes.ownedTupleIsFree
  refine wpAny_bind (wpAny_field hz rfl (x := .none) rfl (wpAny_pure ?_))
  simp only [if_true]
  refine wpAny_bind (wpAny_rule ?_)
  refine wpAny_bind (wpAny_field hz rfl (x := .ref TO) rfl ?_)
  refine wpAny_bind (wpAny_setField_rec hz (by simp) fun h₁ hz₁ hs₁ => ?_)
  replace hz₁ : IsZip h₁ z TI TO .ellipsis := hz₁
  refine wpAny_bind ?_
  simp only [List.zipIdx_cons, List.zipIdx_nil, List.forIn_cons, List.forIn_nil]
  refine wpAny_bind (wpAny_bind (wpAny_onRaise ?_))
  show wpAny _ _ (Builtin.SmallTypes.nextOf (.ref i1) >>= _) _ _ _
  rcases hend with rfl | ⟨hlt, rfl⟩
  · refine wpAny_bind (D1.done _ _ _ (f1 h1 fun o e => hs₁.extBut _ _ D.i1z e) fun h₂ e hs₂ he => ?_)
    obtain ⟨oe, hoe, hce⟩ := he
    have hz₂ : IsZip h₂ z TI TO .ellipsis := hs₂ _ _ D.i1z.symm hz₁
    have hez : e ≠ z := fun x => by subst x; rw [hz₂] at hoe; cases hoe; simp at hce
    refine wpAny_setField_rec hz₂ (by simp) fun h₃ _ hs₃ => hE h₃ e _ (fun c o c1 _ c3 _ x => hs₃.extBut _ _ c1 (hs₂ _ _ c3 (hs₁.extBut _ _ c1 x))) ⟨oe, hs₃.extBut _ _ hez hoe, hce⟩
  · refine wpAny_bind (D1.item _ _ _ _ hlt (f1 h1 fun o e => hs₁.extBut _ _ D.i1z e) fun x h₂ tk₂ px h1₂ hs₂ => wpAny_pure ?_)
    have hTO₂ : IsPair h₂ TO a b := hs₂.extBut _ _ D.TOi1 (hs₁.extBut _ _ D.TOz hTO)
    refine wpAny_bind (wpAny_seqItems hTO₂ rfl ?_)
    refine wpAny_bind (wpAny_updateSeq_pair hTO₂ fun h₃ hTO₃ hs₃ => ?_)
    refine wpAny_bind (wpAny_letGo (wpAny_pure ?_))
    refine wpAny_bind (wpAny_bind (wpAny_onRaise ?_))
    show wpAny _ _ (Builtin.SmallTypes.nextOf (.ref i2) >>= _) _ _ _
    refine wpAny_bind (D2.done _ _ _ (f2 h2 fun o e => hs₃.extBut _ _ D.TOi2.symm (hs₂.extBut _ _ D.i12.symm (hs₁.extBut _ _ D.i2z e))) fun h₄ e hs₄ he => ?_)
    obtain ⟨oe, hoe, hce⟩ := he
    have hz₄ : IsZip h₄ z TI TO .ellipsis := hs₄ _ _ D.i2z.symm (hs₃.extBut _ _ D.TOz.symm (hs₂.extBut _ _ D.i1z.symm hz₁))
    have hez : e ≠ z := fun x => by subst x; rw [hz₄] at hoe; cases hoe; simp at hce
    refine wpAny_setField_rec hz₄ (by simp) fun h₅ _ hs₅ => hE h₅ e _ (fun c o c1 c2 c3 c4 x => hs₅.extBut _ _ c1 (hs₄ _ _ c4 (hs₃.extBut _ _ c2 (hs₂.extBut _ _ c3 (hs₁.extBut _ _ c1 x))))) ⟨oe, hs₅.extBut _ _ hez hoe, hce⟩

theorem pyNext_zip_itemS {z TI TO i1 i2 : Addr} {n1 n2 k : Nat} {P1 P2 : Nat → Value → Prop} {S1 S2 : Nat → Heap → Prop} {a b : Value} {Q : Option Value → Shared → Prop} (D : ZipApart z TI TO i1 i2 TI TI)
    (D1 : Draws prog w A.in1 i1 [i1] n1 P1 S1) (D2 : Draws prog w A.in1 i2 [i2] n2 P2 S2)
    (hz : IsZip s.heap z TI TO .none) (hTI : IsPair s.heap TI (.ref i1) (.ref i2)) (hTO : IsPair s.heap TO a b)
    (h1 : S1 k s.heap) (h2 : S2 k s.heap) (hx : k < n1) (hy : k < n2)
    (hQ : ∀ x y h' tk, P1 k x → P2 k y → IsZip h' z TI TO (rawInt s.heap.objs.size) → IsPair h' TO x y → S1 (k + 1) h' → S2 (k + 1) h' → IsPair h' s.heap.objs.size x y → h'.objs.size = s.heap.objs.size + 1 →
      (∀ c o, c ≠ z → c ≠ TO → c ≠ i1 → c ≠ i2 → s.heap.get? c = some o → h'.get? c = some o) → Q (some (.ref s.heap.objs.size)) { s with heap := h', toks := tk }) :
    wpAny (model prog w) A (pyNext (.ref z)) Q E s := by
  have hT : s.TypeIs (.ref z) "zip" := ⟨_, hz, rfl⟩
  unfold pyNext
  exact wpAny_bind (wpAny_attempt (wpAny_callSpecial?_slot (name := Str.ofString "__next__") hT F.slot_zip_next
    (wpAny_call_entry F.slot_zip_next hT F.entry_zip_next
      (zip_next_itemS D D1 D2 hz hTI hTO h1 h2 hx hy fun x y h' tk p1 p2 a1 a2 a3 a4 a5 a6 a7 => wpAny_pure (hQ x y h' tk p1 p2 a1 a2 a3 a4 a5 a6 a7)) (F.args_zip_next_1 _))))
theorem pyNext_zip_endS {z TI TO i1 i2 : Addr} {n1 n2 k : Nat} {P1 P2 : Nat → Value → Prop} {S1 S2 : Nat → Heap → Prop} {a b : Value} {Q : Option Value → Shared → Prop} (D : ZipApart z TI TO i1 i2 TI TI)
    (D1 : Draws prog w A.in1 i1 [i1] n1 P1 S1) (D2 : Draws prog w A.in1 i2 [i2] n2 P2 S2)
    (hz : IsZip s.heap z TI TO .none) (hTI : IsPair s.heap TI (.ref i1) (.ref i2)) (hTO : IsPair s.heap TO a b)
    (h1 : S1 k s.heap) (h2 : S2 k s.heap) (hend : (k = n1) ∨ (k < n1 ∧ k = n2))
    (hQ : ∀ h' tk, (∀ c o, c ≠ z → c ≠ TO → c ≠ i1 → c ≠ i2 → s.heap.get? c = some o → h'.get? c = some o) → Q none { s with heap := h', toks := tk }) : wpAny (model prog w) A (pyNext (.ref z)) Q E s := by
  have hT : s.TypeIs (.ref z) "zip" := ⟨_, hz, rfl⟩
  unfold pyNext
  refine wpAny_bind (wpAny_attempt (wpAny_callSpecial?_slot (name := Str.ofString "__next__") hT F.slot_zip_next
    (wpAny_call_entry F.slot_zip_next hT F.entry_zip_next (zip_next_endS D D1 D2 hz hTI hTO h1 h2 hend fun h' e tk hk he => ?_) (F.args_zip_next_1 _))))
  obtain ⟨o, ho, hc⟩ := he
  refine wpAny_bind (wpAny_isInstance (T := "StopIteration") (b := true) ⟨o, ho, hc⟩ isSubtype_stop ?_)
  exact wpAny_pure (hQ _ tk hk)
end
abbrev zsH1 (h : Heap) (x : Str) (t : Tok) : Heap := h.push { cls := .type (strIterType x), data := .fields #[.str x t, .int 0 0] }
abbrev zsH2 (h : Heap) (x : Str) (t : Tok) (y : Str) (u : Tok) : Heap := (zsH1 h x t).push { cls := .type (strIterType y), data := .fields #[.str y u, .int 0 0] }
abbrev zsH3 (h : Heap) (x : Str) (t : Tok) (y : Str) (u : Tok) : Heap := (zsH2 h x t y u).push { cls := .type "tuple", data := .seq #[.ref h.objs.size, .ref (zsH1 h x t).objs.size] }
abbrev zsH4 (h : Heap) (x : Str) (t : Tok) (y : Str) (u : Tok) : Heap := (zsH3 h x t y u).push { cls := .type "tuple", data := .seq #[.none, .none] }
abbrev zsH5 (h : Heap) (x : Str) (t : Tok) (y : Str) (u : Tok) : Heap := (zsH4 h x t y u).push { cls := .type "zip", data := .fields #[.none, .bool false, .bool false, .ref (zsH2 h x t y u).objs.size, .ref (zsH3 h x t y u).objs.size] }
set_option maxHeartbeats 2000000 in
theorem meets_zip_newS (x : Str) (t : Tok) (y : Str) (u : Tok) :
    Meets (Builtin.«zip.__new__» ⟨[.type "zip", .str x t, .str y u], []⟩) (fun _ R s =>
      R (.ok (.ret (.ref (zsH4 s.heap x t y u).objs.size))) { s with heap := zsH5 s.heap x t y u }) :=
  .of_wp fun prog w A R s h => by
    obtain ⟨hp, g, d, tk, os⟩ := s
    have hsub := sub_zip
    wp_walk using wpAny_pyIter_strU
    exact ⟨_, rfl, h⟩
section
variable {prog : Program} {w : World} {A : Around} {E : Value → Shared → Prop} {s : Shared}
theorem call_zip_S {x : Str} {t : Tok} {y : Str} {u : Tok} {Q : Value → Shared → Prop}
    (h : ∀ h', IsZip h' (s.heap.objs.size + 4) (s.heap.objs.size + 2) (s.heap.objs.size + 3) .none → IsPair h' (s.heap.objs.size + 2) (.ref s.heap.objs.size) (.ref (s.heap.objs.size + 1)) →
      IsPair h' (s.heap.objs.size + 3) .none .none → h'.IsStrIter s.heap.objs.size (strIterType x) x t 0 → h'.IsStrIter (s.heap.objs.size + 1) (strIterType y) y u 0 → h'.objs.size = s.heap.objs.size + 5 →
      (∀ c o, s.heap.get? c = some o → h'.get? c = some o) → Q (.ref (s.heap.objs.size + 4)) { s with heap := h' }) :
    wpAny (model prog w) A (call (.type "zip") [.str x t, .str y u]) Q E s := by
  refine callType_new F.called_zip (by decide) (F.typeCall_zip_2 _ _) (F.newCall_zip_2 _ _) (fun obj => F.args_object_init_3 obj _ _) F.entry_zip_new
    (meets_zip_newS x t y u) ?_
  have z1 : (zsH1 s.heap x t).objs.size = s.heap.objs.size + 1 := Heap.size_push ..
  have z2 : (zsH2 s.heap x t y u).objs.size = s.heap.objs.size + 2 := by rw [Heap.size_push, z1]
  have z3 : (zsH3 s.heap x t y u).objs.size = s.heap.objs.size + 3 := by rw [Heap.size_push, z2]
  have z4 : (zsH4 s.heap x t y u).objs.size = s.heap.objs.size + 4 := by rw [Heap.size_push, z3]
  have z5 : (zsH5 s.heap x t y u).objs.size = s.heap.objs.size + 5 := by rw [Heap.size_push, z4]
  have g5 : (zsH5 s.heap x t y u).get? (zsH4 s.heap x t y u).objs.size = some _ := Heap.get?_push_size _ rfl
  have g4 : (zsH5 s.heap x t y u).get? (zsH3 s.heap x t y u).objs.size = some _ := Heap.get?_push_of_some _ (Heap.get?_push_size _ rfl)
  have g3 : (zsH5 s.heap x t y u).get? (zsH2 s.heap x t y u).objs.size = some _ := Heap.get?_push_of_some _ (Heap.get?_push_of_some _ (Heap.get?_push_size _ rfl))
  have g2 : (zsH5 s.heap x t y u).get? (zsH1 s.heap x t).objs.size = some _ := Heap.get?_push_of_some _ (Heap.get?_push_of_some _ (Heap.get?_push_of_some _ (Heap.get?_push_size _ rfl)))
  have g1 : (zsH5 s.heap x t y u).get? s.heap.objs.size = some _ := Heap.get?_push_of_some _ (Heap.get?_push_of_some _ (Heap.get?_push_of_some _ (Heap.get?_push_of_some _ (Heap.get?_push_size _ rfl))))
  show _ ∧ _
  rw [z2, z3, z4] at g5
  rw [z1, z2] at g3
  rw [z3] at g4
  rw [z1] at g2
  rw [z4]
  exact ⟨⟨_, g5, rfl⟩, h _ g5 g3 g4 ⟨_, g1, rfl, rfl⟩ ⟨_, g2, rfl, rfl⟩ z5 fun c o q =>
    Heap.get?_push_of_some _ (Heap.get?_push_of_some _ (Heap.get?_push_of_some _ (Heap.get?_push_of_some _ (Heap.get?_push_of_some _ q))))⟩
theorem Draws.str (hh : A.handled = none) (it : Addr) (x : Str) (t : Tok) :
    Draws prog w A it [it] x.cps.size (fun i v => ∃ c u, x.cps[i]? = some c ∧ v = .str ⟨#[c]⟩ u) (fun i h => h.IsStrIter it (strIterType x) x t i) := by
  cases ha : x.cps.all (· < 128)
  · have e : strIterType x = "str_iterator" := by simp [strIterType, ha]
    rw [e]; exact Draws.strWide hh it x t
  · have e : strIterType x = "str_ascii_iterator" := by simp [strIterType, ha]
    rw [e]; exact Draws.strAscii hh it x t
end
end PySem
namespace L2
open PySem PySem.Spec PyProof.Rows
/-- two texts side by side, the signs in new pairs -/
def Itzs (x y : Str) : It :=
  ⟨fun i _ => i < x.cps.size ∧ i < y.cps.size,
    fun i H v H' => ∃ T c d, v = .ref T ∧ H T = none ∧ H' = upd H T (.tup [.str ⟨#[c]⟩, .str ⟨#[d]⟩]) ∧ x.cps[i]? = some c ∧ y.cps[i]? = some d,
    fun i _ => i = x.cps.size ∨ (i < x.cps.size ∧ i = y.cps.size)⟩
theorem turn_zipS {P : Program} {w : World} {K : PySem.W.Frag} {elts : List Expr} {kk : Nat} {tpos : Pos} {x y : Str} {t u : Tok} {z TI TO i1 i2 : Addr} (D : ZipApart z TI TO i1 i2 TI TI) :
    Turn P w K (.Tuple elts kk tpos) (Itzs x y) [z, TI, TO, i1, i2] z (fun i h => IsZip h z TI TO .none ∧ IsPair h TI (.ref i1) (.ref i2) ∧ (∃ a b, IsPair h TO a b) ∧ h.IsStrIter i1 (strIterType x) x t i ∧ h.IsStrIter i2 (strIterType y) y u i) where
  mem := by simp
  obj := fun i h st c hc => by
    obtain ⟨hz, hTI, ⟨x, y, hTO⟩, ⟨o1, e1, _, d1⟩, ⟨o2, e2, _, d2⟩⟩ := st
    have e' : c = z ∨ c = TI ∨ c = TO ∨ c = i1 ∨ c = i2 := by simpa using hc
    rcases e' with q | q | q | q | q
    · rw [q]; exact ⟨_, hz, fun v q => nomatch q⟩
    · rw [q]; exact ⟨_, hTI, fun v q => nomatch q⟩
    · rw [q]; exact ⟨_, hTO, fun v q => nomatch q⟩
    · rw [q]; exact ⟨o1, e1, fun v q => by rw [d1] at q; cases q⟩
    · rw [q]; exact ⟨o2, e2, fun v q => by rw [d2] at q; cases q⟩
  keep := fun i h h' st k => by
    obtain ⟨hz, hTI, ⟨x, y, hTO⟩, ⟨o1, e1, r1⟩, ⟨o2, e2, r2⟩⟩ := st
    exact ⟨k z (by simp) _ hz, k TI (by simp) _ hTI, ⟨x, y, k TO (by simp) _ hTO⟩, ⟨o1, k i1 (by simp) _ e1, r1⟩, ⟨o2, k i2 (by simp) _ e2, r2⟩⟩
  item := by
    intro X hP hw hK hc i pins s σ H E I hf st hg
    subst hP hw hK
    obtain ⟨hz, hTI, ⟨x0, y0, hTO⟩, h1, h2⟩ := st
    have hzl : z < s.heap.objs.size := Heap.lt_size hz
    have hh : X.A.in1.handled = none := I.ok.hd hc
    refine pyNext_zip_itemS D (Draws.str hh i1 x t) (Draws.str hh i2 y u) hz hTI hTO h1 h2 hg.1 hg.2 fun v1 v2 h' tk p1 p2 z' TO' h1' h2' hT hsz hk => ?_
    obtain ⟨c, uc, hcx, rfl⟩ := p1
    obtain ⟨d, ud, hdx, rfl⟩ := p2
    refine ⟨_, rfl, wpAny_letOwnedTupleGo_zip (s := { s with heap := h', toks := tk }) z' fun h'' z'' sb => ?_⟩
    have hT2 : h''.get? s.heap.objs.size = some { cls := .type "tuple", data := .seq #[.str ⟨#[c]⟩ uc, .str ⟨#[d]⟩ ud] } := (sb.2 _ (Nat.ne_of_gt hzl)).trans hT
    have new : ObjOk X.prog X.w (upd H s.heap.objs.size (.tup [.str ⟨#[c]⟩, .str ⟨#[d]⟩])) h'' s.heap.objs.size (.tup [.str ⟨#[c]⟩, .str ⟨#[d]⟩]) :=
      ⟨by show 2 ≤ sizeLine; decide, [.str ⟨#[c]⟩ uc, .str ⟨#[d]⟩ ud], .cons ⟨_, rfl⟩ (.cons ⟨_, rfl⟩ .nil), ⟨_, hT2, rfl, _, rfl⟩⟩
    have I1 : Inv X pins σ (upd H s.heap.objs.size (.tup [.str ⟨#[c]⟩, .str ⟨#[d]⟩])) { s with heap := h'', toks := tk } :=
      I.turnedNew (t' := tk) (ch := [z, TI, TO, i1, i2]) (fun c o hb q => (sb.2 c (fun q' => hb (by simp [q']))).trans (hk c o (fun q' => hb (by simp [q'])) (fun q' => hb (by simp [q'])) (fun q' => hb (by simp [q'])) (fun q' => hb (by simp [q'])) q)) hf (Nat.le_refl _) new
    refine ⟨.ref s.heap.objs.size, _, I1, rfl, ⟨_, c, d, rfl, I.hok.fresh (Nat.le_refl _), rfl, hcx, hdx⟩, ⟨z'', ?_, ⟨.str ⟨#[c]⟩ uc, .str ⟨#[d]⟩ ud, ?_⟩, ?_, ?_⟩, fun c hcm => ?_⟩
    · exact (sb.2 _ D.TIz).trans (hk _ _ D.TIz D.TITO D.TIi1 D.TIi2 hTI)
    · exact (sb.2 _ D.TOz).trans TO'
    · obtain ⟨o1, e1, r1⟩ := h1'
      exact ⟨o1, (sb.2 _ D.i1z).trans e1, r1⟩
    · obtain ⟨o1, e1, r1⟩ := h2'
      exact ⟨o1, (sb.2 _ D.i2z).trans e1, r1⟩
    · have hlt : c < s.heap.objs.size := by
        have e' : c = z ∨ c = TI ∨ c = TO ∨ c = i1 ∨ c = i2 := by simpa using hcm
        rcases e' with q | q | q | q | q
        · rw [q]; exact hzl
        · rw [q]; exact Heap.lt_size hTI
        · rw [q]; exact Heap.lt_size hTO
        · rw [q]; obtain ⟨_, e1, _⟩ := h1; exact Heap.lt_size e1
        · rw [q]; obtain ⟨_, e2, _⟩ := h2; exact Heap.lt_size e2
      rw [upd_ne (Nat.ne_of_lt hlt)]
      exact (hf c hcm).1
  done := by
    intro X hP hw hK hc i pins s σ H E I hf st hg
    subst hP hw hK
    obtain ⟨hz, hTI, ⟨x0, y0, hTO⟩, h1, h2⟩ := st
    have hh : X.A.in1.handled = none := I.ok.hd hc
    exact pyNext_zip_endS D (Draws.str hh i1 x t) (Draws.str hh i2 y u) hz hTI hTO h1 h2 hg fun h' tk hk => ⟨rfl, I.turnedL (t' := tk) (ch := [z, TI, TO, i1, i2]) (fun c o hb q =>
      hk c o (fun q' => hb (by simp [q'])) (fun q' => hb (by simp [q'])) (fun q' => hb (by simp [q'])) (fun q' => hb (by simp [q'])) q) hf⟩
  self := fun A i s Q E st h => wpAny_pyIter_zip st.1 h
def iZipS (ta : TA) : TI := fun σ H R => ta σ H fun vs H1 => ∃ x y, vs = [.str x, .str y] ∧ R (Itzs x y) H1
theorem zipApart_at (n : Nat) : ZipApart (n + 4) (n + 2) (n + 3) n (n + 1) (n + 2) (n + 2) := by
  constructor <;> (intro h; have h' : (_ : Nat) = _ := h; omega)
theorem pi_zipS {X : Cx} {e e2 : Expr} {ta : TA} {p pos tpos : Pos} {elts : List Expr} {kk : Nat} (hg : Gl X "zip") (hm : X.mg "zip" = none) (ha : PA X [e, e2] ta)
    (hs : starEach [e, e2] X.env = (false, eval e X.env) :: starEach [e2] X.env := by rfl) (hpl : (backTo pos (starEach [e2] X.env)).any (·.1) = false := by rfl) :
    PI X (.Tuple elts kk tpos) (.Call (.Name "zip" p) [e, e2] [] pos) (iZipS ta) := by
  intro pins s σ H R I h
  refine Call_ (ld_blt I hg hm boot_zip5 (PyProof.Rows.callWith_type1 (thn (ha pos pins s σ H _ I h) fun us s1 ⟨vs, H1, I1, r1, q1⟩ => ?_) hs hpl))
  obtain ⟨x, y, ex, q⟩ := q1
  subst ex
  cases r1 with
  | cons r rr =>
    cases rr with
    | cons r' rr =>
      cases rr
      obtain ⟨t, rfl⟩ := r
      obtain ⟨u, rfl⟩ := r'
      refine call_zip_S fun h' hz hTI hTO h1 h2 hsz hk => wpAny_pyIter_zip hz ?_
      have I2 : Inv X pins σ H1 { s1 with heap := h' } := I1.kept (t' := s1.toks) hk
      refine ⟨s1.heap.objs.size + 4, [s1.heap.objs.size + 4, s1.heap.objs.size + 2, s1.heap.objs.size + 3, s1.heap.objs.size, s1.heap.objs.size + 1], _, _, H1, rfl, I2, turn_zipS (t := t) (u := u) (zipApart_at s1.heap.objs.size), ⟨hz, hTI, ⟨_, _, hTO⟩, h1, h2⟩, fun c hcm => ?_, q⟩
      have e' : c = s1.heap.objs.size + 4 ∨ c = s1.heap.objs.size + 2 ∨ c = s1.heap.objs.size + 3 ∨ c = s1.heap.objs.size ∨ c = s1.heap.objs.size + 1 := by simpa using hcm
      have hle : s1.heap.objs.size ≤ c := by
        rcases e' with z | z | z | z | z
        · rw [z]; exact Nat.le_add_right _ _
        · rw [z]; exact Nat.le_add_right _ _
        · rw [z]; exact Nat.le_add_right _ _
        · rw [z]; exact Nat.le_refl _
        · rw [z]; exact Nat.le_add_right _ _
      exact I1.fpOk hle (I1.hok.fresh hle)
end L2

/-! enumerate of a tuple; loops and comprehensions over any walk of n turns. -/
namespace PySem
open Sem (wp)
open AutoSeq1 (wpAny_loadPart')
section
variable {prog : Program} {w : World} {A : Around} {E : Value → Shared → Prop} {s : Shared}
theorem nextOf_tuple_item {it t : Addr} {i : Nat} {items} {x : Value} {Q : Value → Shared → Prop} (hit : s.heap.IsTupleIter it t i)
    (ht : s.heap.IsTuple t items) (hx : items[i]? = some x)
    (hQ : ∀ h', h'.IsTupleIter it t (i + 1) → Heap.SameBut it s.heap h' → Q x { s with heap := h' }) :
    wpAny (model prog w) A (Builtin.SmallTypes.nextOf (.ref it)) Q E s := by
  obtain ⟨o, ho, hc, hd⟩ := id hit
  obtain ⟨ol, hol, _, nl, hdl⟩ := ht
  unfold Builtin.SmallTypes.nextOf
  refine wpAny_bind (wpAny_callSpecial?_slot (name := Str.ofString "__next__") hit.typeIs F.slot_tuple_iterator_next
    (wpAny_call_entry F.slot_tuple_iterator_next hit.typeIs F.entry_tuple_iterator_next ?_ (F.args_tuple_iterator_next_1 _)))
  show wpAny _ _ (field (.ref it) 0 >>= _) _ _ s
  refine wpAny_bind (wpAny_field ho hd (x := .ref t) rfl ?_)
  show wpAny _ _ (if (Value.ref t == Value.none) = true then _ else _) _ _ s
  rw [if_neg (show ¬ ((Value.ref t == Value.none) = true) from Bool.false_ne_true)]
  show wpAny _ _ (field (.ref it) 1 >>= _) _ _ s
  refine wpAny_bind (wpAny_field ho hd (x := .int i 0) rfl ?_)
  show wpAny _ _ (seqItems? (.ref t) >>= _) _ _ s
  refine wpAny_bind (wpAny_seqItems hol hdl ?_)
  simp only [Int.toNat_natCast, hx]
  refine wpAny_bind (wpAny_setField ho hd (by simp) (wpAny_pure ⟨x, rfl, wpAny_pure (hQ _ ?_ (Heap.SameBut.update ..))⟩))
  exact ⟨_, Heap.get?_update_self _ ho (Obj.isFreed_of_fields (Obj.data_mapFields hd _)), (Obj.cls_mapFields ..).trans hc, by
    rw [Obj.data_mapFields hd]; simp [rawInt]⟩
theorem nextOf_tuple_end {it t : Addr} {i : Nat} {items} {Q : Value → Shared → Prop} (hh : A.handled = none)
    (hit : s.heap.IsTupleIter it t i) (ht : s.heap.IsTuple t items) (hx : items[i]? = none)
    (hE : ∀ h' e, Heap.ExtBut it s.heap h' → (∃ o, h'.get? e = some o ∧ o.cls = .type "StopIteration") → E (.ref e) { s with heap := h' }) :
    wpAny (model prog w) A (Builtin.SmallTypes.nextOf (.ref it)) Q E s := by
  obtain ⟨o, ho, hc, hd⟩ := id hit
  obtain ⟨ol, hol, _, nl, hdl⟩ := ht
  unfold Builtin.SmallTypes.nextOf
  refine wpAny_bind (wpAny_callSpecial?_slot (name := Str.ofString "__next__") hit.typeIs F.slot_tuple_iterator_next
    (wpAny_call_entry F.slot_tuple_iterator_next hit.typeIs F.entry_tuple_iterator_next ?_ (F.args_tuple_iterator_next_1 _)))
  show wpAny _ _ (field (.ref it) 0 >>= _) _ _ s
  refine wpAny_bind (wpAny_field ho hd (x := .ref t) rfl ?_)
  show wpAny _ _ (if (Value.ref t == Value.none) = true then _ else _) _ _ s
  rw [if_neg (show ¬ ((Value.ref t == Value.none) = true) from Bool.false_ne_true)]
  show wpAny _ _ (field (.ref it) 1 >>= _) _ _ s
  refine wpAny_bind (wpAny_field ho hd (x := .int i 0) rfl ?_)
  show wpAny _ _ (seqItems? (.ref t) >>= _) _ _ s
  refine wpAny_bind (wpAny_seqItems hol hdl ?_)
  simp only [Int.toNat_natCast, hx]
  refine wpAny_bind (wpAny_rule (wpAny_bind (wpAny_setField ho hd (by simp) ?_)))
  show wpAny _ _ (newExc (.type "StopIteration") [] >>= _) _ _ _
  refine wpAny_bind ?_
  simp only [newExc, newTuple]
  refine wpAny_bind (wpAny_newObj_type ?_ (by size_fits))
  refine wpAny_bind (m := firstArgMember _ _) (wpAny_of_eq (a := Value.none) (by first | rfl | (simp only [firstArgMember]; rfl)) ?_)
  refine wpAny_newObj_type ?_ (by size_fits)
  simp only [raiseNew]
  refine wpAny_bind (wpAny_handled ?_)
  first | rw [show A.in1.handled = none from hh] | rw [hh]
  refine wpAny_bind (wpAny_pure (wpAny_throw ?_))
  exact hE _ _ (((Heap.SameBut.update ..).extBut.push _).push _) ⟨_, Heap.get?_push_size _ rfl, rfl⟩
end
theorem Draws.tuple {prog : Program} {w : World} {A : Around} (hh : A.handled = none) (it l : Addr) (hne : l ≠ it) (items : Array Value) :
    Draws prog w A it [it, l] items.size (fun i v => items[i]? = some v) (fun i h => h.IsTupleIter it l i ∧ h.IsTuple l items) where
  live := fun _ _ st => let ⟨o, ho, _⟩ := st.1; ⟨o, ho⟩
  frame := fun _ _ _ st hk => by
    obtain ⟨⟨o, ho, r⟩, ⟨o2, ho2, r2⟩⟩ := st
    exact ⟨⟨o, hk it (by simp) o ho, r⟩, ⟨o2, hk l (by simp) o2 ho2, r2⟩⟩
  item := fun i s Q E hi st hQ => by
    refine nextOf_tuple_item st.1 st.2 (x := items[i]) (by simp [hi]) fun h' hit' hs' => ?_
    exact hQ _ h' s.toks (by simp [hi]) ⟨hit', st.2.extBut hs'.extBut hne⟩ hs'
  done := fun s Q E st hE => nextOf_tuple_end hh st.1 st.2 (by simp) hE
section
variable {prog : Program} {w : World} {A : Around} {E : Value → Shared → Prop} {s : Shared}
end
end PySem
namespace L2
open PySem PySem.Spec PyProof.Rows
/-! ### any walk of n turns -/
theorem for_it {J : It} {n : Nat} {g : TG} {tb : TS} {D : Ends} {σ : St} {H : Hp} (Pv : Nat → St → Hp → Prop) (h0 : Pv 0 σ H)
    (hgo : ∀ i σ H, i < n → Pv i σ H → J.go i H) (hst : ∀ σ H, Pv n σ H → J.stop n H)
    (hs : ∀ i x σ H H', i < n → Pv i σ H → J.yld i H x H' → g x σ H' fun σ2 H2 => tb { D with nx := Pv (i + 1), ct := Pv (i + 1), bk := D.nx } σ2 H2) (hd : ∀ σ H, Pv n σ H → D.nx σ H) :
    ∃ W : Nat → Nat → St → Hp → Prop, (∃ m, W 0 m σ H) ∧ ∀ i m σ H, W i m σ H →
      (J.stop i H ∧ D.nx σ H) ∨ (J.go i H ∧ ∃ N : St → Hp → Prop, (∀ σ' H', N σ' H' → ∃ m', m' < m ∧ W (i + 1) m' σ' H') ∧ ∀ x H', J.yld i H x H' → g x σ H' fun σ2 H2 => tb { D with nx := N, ct := N, bk := D.nx } σ2 H2) := by
  refine ⟨fun i m σ H => m = n - i ∧ i ≤ n ∧ Pv i σ H, ⟨n, by simp, Nat.zero_le _, h0⟩, ?_⟩
  rintro i m σ H ⟨rfl, hi, p⟩
  by_cases hlt : i < n
  · exact .inr ⟨hgo i σ H hlt p, Pv (i + 1), fun σ' H' p' => ⟨n - (i + 1), by omega, rfl, hlt, p'⟩, fun x H' y => hs i x σ H H' hlt p y⟩
  · have e : i = n := by omega
    subst e
    exact .inl ⟨hst σ H p, hd σ H p⟩
theorem lc_it {J : It} {n : Nat} {g : TG} {tt : TT} {te : TE} {vs : List Nat} {σ : St} {H1 : Hp} {D : Addr} {Qd : Hp → Prop} (Pv : Nat → Hp → Prop) (h0 : Pv 0 (upd H1 D (.lst [])))
    (hgo : ∀ i H, i < n → Pv i H → J.go i H) (hst : ∀ H, Pv n H → J.stop n H)
    (hs : ∀ i x H H', i < n → Pv i H → J.yld i H x H' → g x (wipe σ vs) H' fun σ2 H2 => wipe σ2 vs = wipe σ vs ∧ tt σ2 H2 fun b H3 =>
      if b = true then te σ2 H3 fun y H4 => ∃ acc, H4 D = some (.lst acc) ∧ acc.length < sizeLine ∧ Pv (i + 1) (upd H4 D (.lst (acc ++ [y]))) else Pv (i + 1) H3) (hd : ∀ H, Pv n H → Qd H) :
    ∃ W : Nat → Nat → Hp → Prop, (∃ m, W 0 m (upd H1 D (.lst []))) ∧ ∀ i m H, W i m H →
      (J.stop i H ∧ Qd H) ∨ (J.go i H ∧ ∃ Nx : Hp → Prop, (∀ H', Nx H' → ∃ m', m' < m ∧ W (i + 1) m' H') ∧ ∀ x H', J.yld i H x H' → g x (wipe σ vs) H' fun σ2 H2 => wipe σ2 vs = wipe σ vs ∧ tt σ2 H2 fun b H3 =>
        if b = true then te σ2 H3 fun y H4 => ∃ acc, H4 D = some (.lst acc) ∧ acc.length < sizeLine ∧ Nx (upd H4 D (.lst (acc ++ [y]))) else Nx H3) := by
  refine ⟨fun i m H => m = n - i ∧ i ≤ n ∧ Pv i H, ⟨n, by simp, Nat.zero_le _, h0⟩, ?_⟩
  rintro i m H ⟨rfl, hi, p⟩
  by_cases hlt : i < n
  · exact .inr ⟨hgo i H hlt p, Pv (i + 1), fun H' p' => ⟨n - (i + 1), by omega, rfl, hlt, p'⟩, fun x H' y => hs i x H H' hlt p y⟩
  · have e : i = n := by omega
    subst e
    exact .inl ⟨hst H p, hd H p⟩
/-! ### rules whose reading names the fragment itself (for blocks) -/
section
variable {X : Cx}
def rIsI (K : PySem.W.Frag) : List V → Hp → VK → Prop := fun vs H Q => ∃ x T t b, vs = [x, .ty T] ∧ TyOf K H x t ∧ PySem.W.kitOne K t (.type T) = some b ∧ Q (.bl b) H
theorem call_isinstK (K : PySem.W.Frag) (hK : X.K = K := by rfl) : CallR X (.builtin "isinstance") (rIsI K) := by subst hK; exact call_isinst
def rLenQ (K : PySem.W.Frag) : List V → Hp → VK → Prop := fun xs H Q => ∃ p ys, xs = [.ref p] ∧ (SqL K H p ys ∨ SqT K H p ys) ∧ Q (.int ys.length) H
theorem call_lenK (K : PySem.W.Frag) (hK : X.K = K := by rfl) : CallR X (.builtin "len") (rLenQ K) := by subst hK; exact call_len_seq
theorem ix_listK (K : PySem.W.Frag) (hK : X.K = K := by rfl) : IxR X (rIxL K) := by subst hK; exact ix_list
theorem ix_tupK (K : PySem.W.Frag) (hK : X.K = K := by rfl) : IxR X (rIxT K) := by subst hK; exact ix_tup
def rListOf (K : PySem.W.Frag) : List V → Hp → VK → Prop := fun xs H Q => ∃ p ys, xs = [.ref p] ∧ (SqL K H p ys ∨ SqT K H p ys) ∧ ∀ l, H l = none → Q (.ref l) (upd H l (.lst ys))
theorem call_listK (K : PySem.W.Frag) (hK : X.K = K := by rfl) : CallR X (.type "list") (rListOf K) := by subst hK; exact call_list_of
end
end L2

/-! Machines as data, where they stand, and what reading a word is. -/
namespace Be
open PySem L2
/-! ### small helpers -/
theorem kit_tt {K : PySem.W.Frag} {T U : String} {b : Bool} (h1 : (Value.type T == Value.type U) = false) (h2 : PySem.W.kitMeta U = true) (h3 : (fastBuiltinMro T).map (·.contains (.type U)) = some b) : PySem.W.kitOne K (.type T) (.type U) = some b := by
  unfold PySem.W.kitOne
  rw [h1, if_neg (by decide)]
  show (if PySem.W.kitMeta U = true then PySem.W.subIn K (.type T) (.type U) else none) = some b
  rw [if_pos h2]
  exact h3
theorem kit_int_bool {K : PySem.W.Frag} : PySem.W.kitOne K (.type "int") (.type "bool") = some false := kit_tt (by decide +kernel) (by decide +kernel) (by decide +kernel)
theorem iteD {c A B : Prop} [Decidable c] (hc : c) (h : A) : if decide c = true then A else B := by
  rw [decide_eq_true hc]; exact iteT h
theorem iteND {c A B : Prop} [Decidable c] (hc : ¬ c) (h : B) : if decide c = true then A else B := by
  rw [decide_eq_false hc]; exact iteF h
theorem yesT {σ : St} {H : Hp} {A B : Hp → Prop} (h : A H) : tYes σ H (fun b H3 => if b = true then A H3 else B H3) := by
  show if true = true then A H else B H
  exact iteT h
theorem sz_le {n : Nat} (h : n ≤ 10000000) : n ≤ sizeLine := Nat.le_trans h (by decide)
theorem sz_lt {n : Nat} (h : n ≤ 10000000) : n < sizeLine := Nat.lt_of_le_of_lt h (by decide)
theorem Same.upd {H : Hp} {a : Addr} {o : HO} (h : H a = none) : Same H (L2.upd H a o) := fun b u e => by rw [upd_ne (ne_of_none e h)]; exact e
/-- one tracked place D changed since H, all that H tracks stays -/
theorem Same.put {H H' : Hp} {D : Addr} {o : HO} (s : Same H H') (hD : H D = none) : Same H (L2.upd H' D o) := fun b u e => by
  rw [upd_ne (ne_of_none e hD)]; exact s b u e
abbrev vI (r : List Nat) : List V := r.map fun g => V.int ((g : Nat) : Int)
abbrev vB (r : List Bool) : List V := r.map V.bl
/-- lists within a list -/
def Rows (H : Hp) (rs : List V) (xss : List (List V)) : Prop := Paired (fun r xs => ∃ p, r = V.ref p ∧ H p = some (.lst xs)) rs xss
theorem Rows.same {H H' : Hp} {rs : List V} {xss : List (List V)} (s : Same H H') (h : Rows H rs xss) : Rows H' rs xss :=
  Paired.mapP h fun _ _ ⟨p, e, q⟩ => ⟨p, e, s _ _ q⟩
theorem Paired.at' {α β : Type} {F : α → β → Prop} : ∀ {l₁ : List α} {l₂ : List β} {i : Nat} {b : β}, Paired F l₁ l₂ → l₂[i]? = some b → ∃ a, l₁[i]? = some a ∧ F a b
  | _, _, _, _, .nil, e => by simp at e
  | _, _, 0, _, .cons r _, e => by simp at e; subst e; exact ⟨_, rfl, r⟩
  | _, _, i + 1, _, .cons _ t, e => by
    obtain ⟨a, h1, h2⟩ := Paired.at' (i := i) t (by simpa using e)
    exact ⟨a, by simpa using h1, h2⟩
theorem Paired.to' {α β : Type} {F : α → β → Prop} : ∀ {l₁ : List α} {l₂ : List β} {i : Nat} {a : α}, Paired F l₁ l₂ → l₁[i]? = some a → ∃ b, l₂[i]? = some b ∧ F a b
  | _, _, _, _, .nil, e => by simp at e
  | _, _, 0, _, .cons r _, e => by simp at e; subst e; exact ⟨_, rfl, r⟩
  | _, _, i + 1, _, .cons _ t, e => by
    obtain ⟨a, h1, h2⟩ := Paired.to' (i := i) t (by simpa using e)
    exact ⟨a, by simpa using h1, h2⟩
theorem Paired.len' {α β : Type} {F : α → β → Prop} : ∀ {l₁ : List α} {l₂ : List β}, Paired F l₁ l₂ → l₁.length = l₂.length
  | _, _, .nil => rfl
  | _, _, .cons _ t => by simp [Paired.len' t]
theorem Rows.at {H : Hp} {rs : List V} {xss : List (List V)} {i : Nat} {xs : List V} (h : Rows H rs xss) (e : xss[i]? = some xs) : ∃ p, rs[i]? = some (.ref p) ∧ H p = some (.lst xs) := by
  obtain ⟨r, h1, p, rfl, h2⟩ := Paired.at' h e
  exact ⟨p, h1, h2⟩
theorem Rows.to {H : Hp} {rs : List V} {xss : List (List V)} {i : Nat} {r : V} (h : Rows H rs xss) (e : rs[i]? = some r) : ∃ p xs, r = .ref p ∧ xss[i]? = some xs ∧ H p = some (.lst xs) := by
  obtain ⟨xs, h1, p, rfl, h2⟩ := Paired.to' h e
  exact ⟨p, xs, rfl, h1, h2⟩
theorem Rows.len {H : Hp} {rs : List V} {xss : List (List V)} (h : Rows H rs xss) : rs.length = xss.length := Paired.len' h
theorem Rows.snoc {H : Hp} {rs : List V} {xss : List (List V)} {p : Addr} {xs : List V} (h : Rows H rs xss) (e : H p = some (.lst xs)) : Rows H (rs ++ [.ref p]) (xss ++ [xs]) := Paired.snoc h ⟨p, rfl, e⟩

/-! ### machines -/
structure Mach where
  letters : Str
  moves : List (List Nat)
  ends : List Bool
  mids : List (List Bool)
abbrev Mach.L (M : Mach) : List Nat := M.letters.cps.toList
abbrev Mach.k (M : Mach) : Nat := M.letters.cps.size
abbrev Mach.n (M : Mach) : Nat := M.moves.length
/-- one to three rising letters from a to z -/
structure LetOk (x : Str) : Prop where
  k1 : 1 ≤ x.cps.size
  k3 : x.cps.size ≤ 3
  lo : ∀ c ∈ x.cps.toList, 97 ≤ c
  hi : ∀ c ∈ x.cps.toList, c ≤ 122
  up : ∀ i c d, x.cps[i]? = some c → x.cps[i + 1]? = some d → c < d
structure Mach.OkB (Bd : Nat) (M : Mach) : Prop where
  let_ : LetOk M.letters
  n1 : 1 ≤ M.moves.length
  n40 : M.moves.length ≤ Bd
  rows : ∀ r ∈ M.moves, r.length = M.k * M.k ∧ ∀ g ∈ r, g < M.moves.length
  ends : M.ends.length = M.moves.length
  mids : M.mids.length = M.moves.length
  mrows : ∀ r ∈ M.mids, r.length = M.k
abbrev Mach.Ok (M : Mach) : Prop := M.OkB 40
theorem Mach.OkB.mono {M : Mach} {a b : Nat} (ok : M.OkB a) (h : a ≤ b) : M.OkB b := ⟨ok.let_, ok.n1, Nat.le_trans ok.n40 h, ok.rows, ok.ends, ok.mids, ok.mrows⟩
/-- the machine M stands at v -/
def MAt (H : Hp) (v : V) (M : Mach) : Prop :=
  ∃ (a pm pe pq : Addr) (rs qs : List V), v = .ref a ∧ H a = some (.tup [.str M.letters, .ref pm, .ref pe, .ref pq]) ∧ H pm = some (.lst rs) ∧ Rows H rs (M.moves.map vI) ∧
    H pe = some (.lst (vB M.ends)) ∧ H pq = some (.lst qs) ∧ Rows H qs (M.mids.map vB)
theorem MAt.same {H H' : Hp} {v : V} {M : Mach} (s : Same H H') (h : MAt H v M) : MAt H' v M := by
  obtain ⟨a, pm, pe, pq, rs, qs, e, h1, h2, h3, h4, h5, h6⟩ := h
  exact ⟨a, pm, pe, pq, rs, qs, e, s _ _ h1, s _ _ h2, h3.same s, s _ _ h4, s _ _ h5, h6.same s⟩
/-! ### reading -/
def Mach.ix (M : Mach) (c : Nat) : Nat := M.L.idxOf c
def Mach.stp (M : Mach) (q : Nat) (p : Nat × Nat) : Nat := (M.moves.getD q []).getD (M.ix p.1 * M.k + M.ix p.2) 0
def Mach.run (M : Mach) (q : Nat) (ps : List (Nat × Nat)) : Nat := ps.foldl M.stp q
def Mach.bhd (M : Mach) (l r : List Nat) : Nat := M.run 0 (l.zip r.reverse)
def Mach.fin (M : Mach) (q : Nat) : Bool := M.ends.getD q false
def Mach.mid (M : Mach) (q c : Nat) : Bool := (M.mids.getD q []).getD (M.ix c) false
/-- what is told: by the halves -/
def Mach.has (M : Mach) (w : List Nat) : Bool :=
  let q := M.bhd (w.take (w.length / 2)) (w.drop (w.length - w.length / 2))
  if w.length % 2 = 0 then M.fin q else M.mid q (w.getD (w.length / 2) 0)
theorem Mach.ix_lt {M : Mach} {c : Nat} (h : c ∈ M.L) : M.ix c < M.k := by
  have := List.idxOf_lt_length_of_mem h
  simpa [Mach.k, Mach.ix] using this
theorem Mach.cell {M : Mach} {Bd : Nat} (ok : M.OkB Bd) {q a b : Nat} (hq : q < M.n) (ha : a ∈ M.L) (hb : b ∈ M.L) :
    ∃ r, M.moves[q]? = some r ∧ r[M.ix a * M.k + M.ix b]? = some (M.stp q (a, b)) ∧ M.stp q (a, b) < M.n := by
  have e : M.moves[q]? = some (M.moves[q]'hq) := List.getElem?_eq_getElem hq
  refine ⟨_, e, ?_⟩
  obtain ⟨hl, hg⟩ := ok.rows _ (List.getElem_mem hq)
  have h1 := M.ix_lt ha
  have h2 := M.ix_lt hb
  have hlt : M.ix a * M.k + M.ix b < (M.moves[q]'hq).length := by
    rw [hl]
    calc M.ix a * M.k + M.ix b < M.ix a * M.k + M.k := by omega
      _ = (M.ix a + 1) * M.k := by rw [Nat.succ_mul]
      _ ≤ M.k * M.k := Nat.mul_le_mul_right _ h1
  have e2 : M.stp q (a, b) = (M.moves[q]'hq)[M.ix a * M.k + M.ix b]'hlt := by
    have e0 : M.moves.getD q [] = M.moves[q]'hq := by rw [List.getD_eq_getElem?_getD, e, Option.getD_some]
    show (M.moves.getD q []).getD (M.ix a * M.k + M.ix b) 0 = _
    rw [e0, List.getD_eq_getElem?_getD, List.getElem?_eq_getElem hlt, Option.getD_some]
  rw [e2]
  exact ⟨List.getElem?_eq_getElem hlt, hg _ (List.getElem_mem hlt)⟩
theorem Mach.run_lt {M : Mach} {Bd : Nat} (ok : M.OkB Bd) : ∀ (ps : List (Nat × Nat)) (q : Nat), q < M.n → (∀ p ∈ ps, p.1 ∈ M.L ∧ p.2 ∈ M.L) → M.run q ps < M.n
  | [], q, hq, _ => hq
  | p :: r, q, hq, h => by
    show M.run (M.stp q p) r < M.n
    obtain ⟨_, _, _, hlt⟩ := Mach.cell ok hq (h p (List.mem_cons_self ..)).1 (h p (List.mem_cons_self ..)).2
    exact Mach.run_lt ok r _ hlt fun p' hp' => h p' (List.mem_cons_of_mem _ hp')
theorem Mach.bhd_lt {M : Mach} {Bd : Nat} (ok : M.OkB Bd) {l r : List Nat} (hl : ∀ c ∈ l, c ∈ M.L) (hr : ∀ c ∈ r, c ∈ M.L) : M.bhd l r < M.n :=
  Mach.run_lt ok _ _ ok.n1 fun p hp => by
    obtain ⟨h1, h2⟩ := List.of_mem_zip hp
    exact ⟨hl _ h1, hr _ (List.mem_reverse.mp h2)⟩
theorem Mach.fin_at {M : Mach} {Bd : Nat} (ok : M.OkB Bd) {q : Nat} (hq : q < M.n) : M.ends[q]? = some (M.fin q) := by
  have h : q < M.ends.length := by rw [ok.ends]; exact hq
  unfold Mach.fin
  rw [List.getD_eq_getElem?_getD, List.getElem?_eq_getElem h, Option.getD_some]
theorem Mach.mid_at {M : Mach} {Bd : Nat} (ok : M.OkB Bd) {q c : Nat} (hq : q < M.n) (hc : c ∈ M.L) : ∃ r, M.mids[q]? = some r ∧ r[M.ix c]? = some (M.mid q c) := by
  have h : q < M.mids.length := by rw [ok.mids]; exact hq
  refine ⟨_, List.getElem?_eq_getElem h, ?_⟩
  have hl := ok.mrows _ (List.getElem_mem h)
  have hx : M.ix c < (M.mids[q]'h).length := by rw [hl]; exact M.ix_lt hc
  have e0 : M.mids.getD q [] = M.mids[q]'h := by rw [List.getD_eq_getElem?_getD, List.getElem?_eq_getElem h, Option.getD_some]
  unfold Mach.mid
  rw [e0, List.getD_eq_getElem?_getD, List.getElem?_eq_getElem hx, Option.getD_some]
end Be

namespace Be
open PySem L2
def top (i : Nat) : Stmt := PySem.Challenge.pw_bothends_k09_whole_numbers.main.body.getD i (.Pass ⟨0, 0, 0, 0⟩)
/-- what the built-ins' names are: not the module's -/
structure BI (mg : Str → Option Value) : Prop where
  isinstance : mg "isinstance" = none
  int : mg "int" = none
  bool : mg "bool" = none
  str : mg "str" = none
  list : mg "list" = none
  tuple : mg "tuple" = none
  len : mg "len" = none
  all : mg "all" = none
  zip : mg "zip" = none
  range : mg "range" = none
  max : mg "max" = none
  enumerate : mg "enumerate" = none
/-- the module's numbers -/
structure CO (mg : Str → Option Value) : Prop where
  ml : ∃ t, mg "MOST_LETTERS" = some (.int 3 t)
  ms : ∃ t, mg "MOST_STATES" = some (.int 40 t)
  mw : ∃ t, mg "MOST_OF_WORD" = some (.int 60 t)
/-- a def of the top -/
structure Def (K : PySem.W.Frag) (mg : Str → Option Value) (x : Str) (st : Stmt) (ps : List Str) (f : Addr) (fd : FuncData) : Prop where
  F : Fun K x x st f fd
  b : Binds K fd ps []
  m : mg x = some (.ref f)
section
variable {P : Program} {w : World} {K : PySem.W.Frag} {mg : Str → Option Value} {base : Heap}
/-! ### is_number -/
def spIsNumber : Sp := fun vs H Q _ => ∃ i, vs = [.int i] ∧ Q (.bl true) H
theorem sc7 : FnScope ["value"] ["value"] (defScope (top 10)) := ⟨rfl, rfl, rfl, by decide +kernel, rfl, by decide +kernel, by decide +kernel⟩
theorem ok_isnumber {f : Addr} {fd : FuncData} (D : Def K mg "is_number" (top 10) ["value"] f fd) (T : BI mg) : FnOk P w K mg base CX0 1 f fd ["value"] spIsNumber := by
  refine D.F.ok sc7 (fun vs H Q E h => ?_) (fun cdv A outer s H vs Q E hr h => ?_)
  · obtain ⟨i, rfl, _⟩ := h; rfl
  · obtain ⟨i, rfl, k⟩ := h
    refine ⟨_, pss_one (ps_ret (pe_and (pe_callB call_isinst (by rfl) T.isinstance (by decide +kernel) (pa_cons (pv 0) (pa_cons (pe_bltn (v := .ty "int") (by rfl) T.int (by decide +kernel) rfl) pa_nil)))
      (pe_one (pe_not (pe_callB call_isinst (by rfl) T.isinstance (by decide +kernel) (pa_cons (pv 0) (pa_cons (pe_bltn (v := .ty "bool") (by rfl) T.bool (by decide +kernel) rfl) pa_nil))))))), ?_⟩
    exact ⟨_, rfl, _, _, _, _, rfl, TyOf.int _, rfl, _, rfl, iteT ⟨_, rfl, _, _, _, false, rfl, TyOf.int _, kit_int_bool, _, rfl, k⟩⟩
/-! ### is_list_of -/
def spIsListOf : Sp := fun vs H Q _ => ∃ a xs m, vs = [.ref a, .int m] ∧ H a = some (.lst xs) ∧ Q (.bl (decide ((xs.length : Int) = m))) H
theorem sc8 : FnScope ["value", "many"] ["value", "many"] (defScope (top 11)) := ⟨rfl, rfl, rfl, by decide +kernel, rfl, by decide +kernel, by decide +kernel⟩
theorem ok_islistof {f : Addr} {fd : FuncData} (D : Def K mg "is_list_of" (top 11) ["value", "many"] f fd) (T : BI mg) : FnOk P w K mg base CX0 1 f fd ["value", "many"] spIsListOf := by
  refine D.F.ok sc8 (fun vs H Q E h => ?_) (fun cdv A outer s H vs Q E hr h => ?_)
  · obtain ⟨a, xs, m, rfl, _⟩ := h; rfl
  · obtain ⟨a, xs, m, rfl, ha, k⟩ := h
    refine ⟨_, pss_one (ps_ret (pe_and (pe_callB call_isinst (by rfl) T.isinstance (by decide +kernel) (pa_cons (pv 0) (pa_cons (pe_bltn (v := .ty "list") (by rfl) T.list (by decide +kernel) rfl) pa_nil)))
      (pe_one (pe_cmp (pc_eqI (pe_callB call_len_seq (by rfl) T.len PySem.boot_len (pa_cons (pv 0) pa_nil)) (pv 1)) rfl)))), ?_⟩
    exact ⟨_, rfl, _, _, _, _, rfl, TyOf.lst ha, rfl, _, rfl, iteT ⟨_, rfl, _, _, rfl, .inl (SqL.of ha), _, rfl, _, _, rfl, rfl, k⟩⟩
/-! ### are_letters -/
def spAreLetters : Sp := fun vs H Q _ => ∃ x, vs = [.str x] ∧ LetOk x ∧ ∀ H', Same H H' → Q (.bl true) H'
theorem sc9 : FnScope ["value", "one", "other"] ["value"] (defScope (top 12)) := ⟨rfl, rfl, rfl, by decide +kernel, rfl, by decide +kernel, by decide +kernel⟩
theorem lt1 (c d : Nat) : decide (([c] : List Nat) < [d]) = decide (c < d) := by
  by_cases h : c < d
  · rw [decide_eq_true h]
    exact decide_eq_true (List.Lex.rel h)
  · rw [decide_eq_false h]
    refine decide_eq_false fun q => h ?_
    cases q with
    | rel h => exact h
    | cons h => cases h
theorem all_rep (n : Nat) : (List.replicate n true).all id = true := by simp
theorem rep_succ (n : Nat) : (List.replicate n true).map V.bl ++ [V.bl true] = (List.replicate (n + 1) true).map V.bl := by
  rw [List.replicate_succ']; simp
theorem ok_areletters {f : Addr} {fd : FuncData} (D : Def K mg "are_letters" (top 12) ["value"] f fd) (T : BI mg) (C : CO mg) : FnOk P w K mg base CX0 1 f fd ["value"] spAreLetters := by
  refine D.F.ok sc9 (fun vs H Q E h => ?_) (fun cdv A outer s H vs Q E hr h => ?_)
  · obtain ⟨x, rfl, _⟩ := h; rfl
  · obtain ⟨x, rfl, ok, k⟩ := h
    obtain ⟨tml, eml⟩ := C.ml
    refine ⟨_, pss_cons (ps_if (PW.pt (pw_or (pt_not (pt_val (pe_callB call_isinst (by rfl) T.isinstance (by decide +kernel) (pa_cons (pv 0) (pa_cons (pe_bltn (v := .ty "str") (by rfl) T.str (by decide +kernel) rfl) pa_nil)))))
        (pw_or1 (pt_not (pt_chain op_le op_le pe_int (pe_callB call_len_str (by rfl) T.len PySem.boot_len (pa_cons (pv 0) pa_nil)) (pe_glob (v := .int 3) (by rfl) eml ⟨_, rfl⟩)))))) (pss_one (ps_ret pe_bl)) pss_nil)
      (pss_cons (ps_if (PW.pt (pw_or (pt_cmpR op_lt_str (pe_ix ix_str (pv 0) pe_int (fun _ _ => rfl)) pe_str (nomark _))
        (pw_or1 (pt_cmpR op_gt_str (pe_ix ix_str (pv 0) (pe_un un_neg pe_int) (fun _ _ => rfl)) pe_str (nomark _))))) (pss_one (ps_ret pe_bl)) pss_nil)
      (pss_one (ps_ret (pe_callB (cr_all rfl) (by rfl) T.all (by decide +kernel) (pa_cons
        (pe_lc (own := [("one", 1), ("other", 2)]) (g := gTup _ 2 (gCons (gName 1) (gCons (gName 2) gNil))) (by rfl) sc9.nd
          (pi_zipS (by rfl) T.zip (pa_cons (pv 0) (pa_cons (pe_slice sl_str (pv 0) (po_some pe_int) po_none) pa_nil)))
          (blkOk_by (own := [("one", 1), ("other", 2)]) (N := ["value", "one", "other"]) (sc := defScope (top 12)) (by decide +kernel))
          (fun _ _ _ _ _ => pg_tup rfl (pgs_cons (pg_name (i := 1) sc9.nd rfl (Or.inl rfl)) (pgs_cons (pg_name (i := 2) sc9.nd rfl (Or.inl rfl)) pgs_nil)))
          (fun _ _ _ _ _ => pts_nil) (fun _ _ _ _ _ => pe_cmpR op_lt_str (pv 1) (pv 2) (nomark _))) pa_nil))))), ?_⟩
    have hz : x.length ≤ sizeLine := sz_le (by have := ok.k3; show x.cps.size ≤ _; omega)
    have k1 := ok.k1
    have k3 := ok.k3
    obtain ⟨c0, hc0⟩ : ∃ c, x.cps.toList[0]? = some c := ⟨_, List.getElem?_eq_getElem (by rw [Array.length_toList]; exact k1)⟩
    obtain ⟨l0, cl, hcl⟩ : ∃ l c, x.cps.toList = l ++ [c] := by
      have hne : x.cps.toList ≠ [] := by
        intro e
        have h0 : x.cps.toList.length = 0 := by rw [e]; rfl
        rw [Array.length_toList] at h0
        omega
      exact ⟨_, _, (List.dropLast_concat_getLast hne).symm⟩
    have m0 : c0 ∈ x.cps.toList := List.mem_of_getElem? hc0
    have ml : cl ∈ x.cps.toList := by rw [hcl]; simp
    -- not isinstance(value, str) or not 1 <= len(value) <= MOST_LETTERS
    refine ⟨_, rfl, _, _, _, _, rfl, TyOf.str _, rfl, _, rfl, iteF ?_⟩
    refine ⟨_, rfl, _, rfl, hz, _, _, rfl, rfl, _, rfl, iteD (by show (1 : Int) ≤ (x.cps.size : Int); omega) ⟨_, _, rfl, rfl, _, rfl, ?_⟩⟩
    have e3 : decide ((x.length : Int) ≤ 3) = true := decide_eq_true (by show ((x.cps.size : Nat) : Int) ≤ 3; omega)
    rw [e3]
    refine iteF ?_
    -- value[0] < 'a' or value[-1] > 'z'
    refine ⟨_, rfl, _, _, c0, rfl, rfl, hz, atI_nat (j := 0) hc0, _, _, rfl, rfl, _, rfl, ?_⟩
    have e4 : decide (([c0] : List Nat) < [97]) = false := by rw [lt1]; exact decide_eq_false (by have := ok.lo _ m0; omega)
    show if decide (([c0] : List Nat) < [97]) = true then _ else _
    rw [e4]
    refine iteF ?_
    refine ⟨_, rfl, _, rfl, _, _, cl, rfl, rfl, hz, by rw [hcl]; exact atI_last _ _, _, _, rfl, rfl, _, rfl, ?_⟩
    have e5 : decide (([122] : List Nat) < [cl]) = false := by rw [lt1]; exact decide_eq_false (by have := ok.hi _ ml; omega)
    show if decide (([122] : List Nat) < [cl]) = true then _ else _
    rw [e5]
    refine iteF ?_
    -- all([one < other for one, other in zip(value, value[1:])])
    have hy : (cutS x (some 1) none).cps.toList = x.cps.toList.drop 1 := by
      show (((x.cps.toList.drop (HT.sIx x.length 0 (some 1))).take (HT.sIx x.length x.length none - HT.sIx x.length 0 (some 1))).toArray).toList = _
      have e1 : HT.sIx x.length 0 (some ((1 : Nat) : Int)) = 1 := by rw [HT.sIx_nat]; show min 1 x.cps.size = 1; omega
      rw [show ((1 : Int)) = ((1 : Nat) : Int) from rfl, e1, HT.sIx_none, List.toList_toArray, List.take_of_length_le (by simp; show x.cps.size ≤ x.cps.size - 1 + 1; omega)]
    have hys : (cutS x (some 1) none).cps.size = x.cps.size - 1 := by
      have := congrArg List.length hy
      simpa using this
    refine ⟨_, rfl, _, rfl, _, rfl, x, rfl, hz, x, _, rfl, fun D hD => lc_it (n := x.cps.size - 1) (fun i H' => Same H H' ∧ H' D = some (.lst ((List.replicate i true).map V.bl)))
      ⟨Same.upd hD, upd_same⟩ (fun i H' hi _ => ⟨by omega, by rw [hys]; exact hi⟩) (fun H' _ => .inr ⟨by omega, by rw [hys]⟩) ?_ ?_⟩
    · rintro i v H1 H2 hi ⟨s1, hD1⟩ ⟨Tp, c, d, rfl, hT, rfl, hc, hd⟩
      refine ⟨Tp, _, rfl, SqT.of upd_same, rfl, _, _, rfl, _, _, rfl, rfl, rfl, ?_⟩
      refine yesT ?_
      refine ⟨_, rfl, _, rfl, _, _, rfl, rfl, (List.replicate i true).map V.bl, ?_, ?_, ?_⟩
      · rw [upd_ne (ne_of_none hD1 hT)]; exact hD1
      · simp; exact sz_lt (by omega)
      · have e : decide (([c] : List Nat) < [d]) = true := by
          rw [lt1]
          refine decide_eq_true (ok.up i c d hc ?_)
          have h2 : (cutS x (some 1) none).cps.toList[i]? = some d := by rw [Array.getElem?_toList]; exact hd
          rw [hy, List.getElem?_drop, Array.getElem?_toList, Nat.add_comm] at h2
          exact h2
        show Same H (upd _ D (.lst (_ ++ [V.bl (decide (([c] : List Nat) < [d]))]))) ∧ _
        rw [e, rep_succ]
        exact ⟨Same.put (s1.trans (Same.upd hT)) hD, upd_same⟩
    · rintro H' ⟨s1, hD1⟩
      refine ⟨D, _, rfl, SqL.of hD1, ?_⟩
      rw [all_rep]
      exact k H' s1
end
end Be

namespace Be
open PySem L2
section
variable {P : Program} {w : World} {K : PySem.W.Frag} {mg : Str → Option Value} {base : Heap}
/-- where a comprehension of truths stands after i turns -/
abbrev Tru (H : Hp) (D : Addr) (i : Nat) (H' : Hp) : Prop := Same H H' ∧ H' D = some (.lst ((List.replicate i true).map V.bl))
theorem Tru.next {H H1 : Hp} {D : Addr} {i : Nat} (hD : H D = none) (h : Tru H D i H1) (hi : i ≤ 10000) : ∃ acc, H1 D = some (.lst acc) ∧ acc.length < sizeLine ∧ Tru H D (i + 1) (upd H1 D (.lst (acc ++ [.bl true]))) :=
  ⟨_, h.2, by simp; exact sz_lt (by omega), by rw [rep_succ]; exact ⟨Same.put h.1 hD, upd_same⟩⟩
/-! ### is_state -/
def spIsState : Sp := fun vs H Q _ => ∃ g n, vs = [.int g, .int n] ∧ Q (.bl (decide (0 ≤ g ∧ g < n))) H
theorem scIS : FnScope ["value", "states"] ["value", "states"] (defScope (top 13)) := ⟨rfl, rfl, rfl, by decide +kernel, rfl, by decide +kernel, by decide +kernel⟩
theorem ok_isstate {f f7 : Addr} {fd fd7 : FuncData} (D : Def K mg "is_state" (top 13) ["value", "states"] f fd) (T : BI mg) (D7 : Def K mg "is_number" (top 10) ["value"] f7 fd7) :
    FnOk P w K mg base CX0 2 f fd ["value", "states"] spIsState := by
  have G7 : FnOk P w K mg base CX0 1 f7 fd7 ["value"] spIsNumber := ok_isnumber D7 T
  refine D.F.ok scIS (fun vs H Q E h => ?_) (fun cdv A outer s H vs Q E hr h => ?_)
  · obtain ⟨g, n, rfl, _⟩ := h; rfl
  · obtain ⟨g, n, rfl, k⟩ := h
    refine ⟨_, pss_one (ps_ret (pe_and (pe_call G7 hr (by rfl) D7.m D7.F.kp D7.b .nil pass0 (pa_cons (pv 0) pa_nil)) (pe_one (pe_chain op_le op_lt pe_int (pv 0) (pv 1))))), ?_⟩
    refine ⟨_, rfl, _, rfl, _, rfl, iteT ?_⟩
    refine ⟨_, rfl, _, _, rfl, rfl, _, rfl, ?_⟩
    by_cases h0 : (0 : Int) ≤ g
    · refine iteD h0 ⟨_, rfl, _, _, rfl, rfl, ?_⟩
      have e : decide (g < n) = decide (0 ≤ g ∧ g < n) := by simp [h0]
      dsimp only
      rw [e]; exact k
    · refine iteND h0 ?_
      have e : false = decide (0 ≤ g ∧ g < n) := by simp [h0]
      rw [e]; exact k
/-! ### are_states -/
def spAreStates : Sp := fun vs H Q _ => ∃ a r m n, vs = [.ref a, .int m, .int n] ∧ H a = some (.lst (vI r)) ∧ (r.length : Int) = m ∧ (∀ g ∈ r, (g : Int) < n) ∧ r.length ≤ 10000 ∧ ∀ H', Same H H' → Q (.bl true) H'
theorem sc10 : FnScope ["value", "many", "states", "goal"] ["value", "many", "states"] (defScope (top 14)) := ⟨rfl, rfl, rfl, by decide +kernel, rfl, by decide +kernel, by decide +kernel⟩
theorem ok_arestates {f f7 f8 : Addr} {fd fd7 fd8 : FuncData} (D : Def K mg "are_states" (top 14) ["value", "many", "states"] f fd) (T : BI mg) (D7 : Def K mg "is_state" (top 13) ["value", "states"] f7 fd7) (G7 : FnOk P w K mg base CX0 2 f7 fd7 ["value", "states"] spIsState) (D8 : Def K mg "is_list_of" (top 11) ["value", "many"] f8 fd8) :
    FnOk P w K mg base CX0 3 f fd ["value", "many", "states"] spAreStates := by
  have G8 : FnOk P w K mg base CX0 1 f8 fd8 ["value", "many"] spIsListOf := ok_islistof D8 T
  refine D.F.ok sc10 (fun vs H Q E h => ?_) (fun cdv A outer s H vs Q E hr h => ?_)
  · obtain ⟨a, r, m, n, rfl, _⟩ := h; rfl
  · obtain ⟨a, r, m, n, rfl, ha, hm, hn, hl, k⟩ := h
    refine ⟨_, pss_one (ps_ret (pe_and (pe_call G8 (hr.mono (by decide)) (by rfl) D8.m D8.F.kp D8.b .nil pass0 (pa_cons (pv 0) (pa_cons (pv 1) pa_nil)))
      (pe_one (pe_callB (cr_all rfl) (by rfl) T.all (by decide +kernel) (pa_cons
        (pe_lc (own := [("goal", 3)]) (g := gName 3) (by rfl) sc10.nd (pi_list (pv 0))
          (blkOk_by (own := [("goal", 3)]) (N := ["value", "many", "states", "goal"]) (sc := defScope (top 14)) (by decide +kernel))
          (fun _ _ _ _ _ => pg_name (i := 3) sc10.nd rfl (Or.inl rfl)) (fun _ _ _ _ _ => pts_nil)
          (fun _ _ _ _ _ => pe_call G7 hr (by rfl) D7.m D7.F.kp D7.b .nil pass0 (pa_cons (pv 3) (pa_cons (pv 2) pa_nil)))) pa_nil))))), ?_⟩
    refine ⟨_, rfl, _, rfl, a, _, m, rfl, ha, _, rfl, iteD (by rw [List.length_map]; exact hm) ?_⟩
    refine ⟨_, rfl, a, rfl, ⟨_, SqL.of ha⟩, fun Dn hD => lc_list (K := K) (a := a) (xs := vI r) (fun i H' => Tru H Dn i H')
      ⟨Same.upd hD, upd_same⟩ (fun i H' _ h => SqL.of (h.1 _ _ ha)) ?_ ?_⟩
    · rintro i v H1 hv h1
      have hi : i < r.length := by have := (List.getElem?_eq_some_iff.mp hv).1; simpa using this
      rw [List.getElem?_map, List.getElem?_eq_getElem hi] at hv
      cases Option.some.inj hv
      refine ⟨rfl, yesT ?_⟩
      refine ⟨_, rfl, _, rfl, _, _, rfl, ?_⟩
      have hg := hn _ (List.getElem_mem hi)
      rw [decide_eq_true (show (0 : Int) ≤ ((r[i] : Nat) : Int) ∧ ((r[i] : Nat) : Int) < n from ⟨by omega, hg⟩)]
      exact Tru.next hD h1 (by omega)
    · rintro H' ⟨s1, hD1⟩
      refine ⟨Dn, _, rfl, SqL.of hD1, ?_⟩
      rw [all_rep]
      exact k H' s1
/-! ### are_truths -/
def spAreTruths : Sp := fun vs H Q _ => ∃ a r m, vs = [.ref a, .int m] ∧ H a = some (.lst (vB r)) ∧ (r.length : Int) = m ∧ r.length ≤ 10000 ∧ ∀ H', Same H H' → Q (.bl true) H'
theorem sc11 : FnScope ["value", "many", "truth"] ["value", "many"] (defScope (top 15)) := ⟨rfl, rfl, rfl, by decide +kernel, rfl, by decide +kernel, by decide +kernel⟩
theorem ok_aretruths {f f8 : Addr} {fd fd8 : FuncData} (D : Def K mg "are_truths" (top 15) ["value", "many"] f fd) (T : BI mg) (D8 : Def K mg "is_list_of" (top 11) ["value", "many"] f8 fd8) :
    FnOk P w K mg base CX0 2 f fd ["value", "many"] spAreTruths := by
  have G8 : FnOk P w K mg base CX0 1 f8 fd8 ["value", "many"] spIsListOf := ok_islistof D8 T
  refine D.F.ok sc11 (fun vs H Q E h => ?_) (fun cdv A outer s H vs Q E hr h => ?_)
  · obtain ⟨a, r, m, rfl, _⟩ := h; rfl
  · obtain ⟨a, r, m, rfl, ha, hm, hl, k⟩ := h
    refine ⟨_, pss_one (ps_ret (pe_and (pe_call G8 hr (by rfl) D8.m D8.F.kp D8.b .nil pass0 (pa_cons (pv 0) (pa_cons (pv 1) pa_nil)))
      (pe_one (pe_callB (cr_all rfl) (by rfl) T.all (by decide +kernel) (pa_cons
        (pe_lc (own := [("truth", 2)]) (g := gName 2) (by rfl) sc11.nd (pi_list (pv 0))
          (blkOk_by (own := [("truth", 2)]) (N := ["value", "many", "truth"]) (sc := defScope (top 15)) (by decide +kernel))
          (fun _ _ _ _ _ => pg_name (i := 2) sc11.nd rfl (Or.inl rfl)) (fun _ _ _ _ _ => pts_nil)
          (fun _ _ _ _ _ => pe_callB (call_isinstK K) (by rfl) T.isinstance (by decide +kernel) (pa_cons (pv 2) (pa_cons (pe_bltn (v := .ty "bool") (by rfl) T.bool (by decide +kernel) rfl) pa_nil)))) pa_nil))))), ?_⟩
    refine ⟨_, rfl, _, rfl, a, _, m, rfl, ha, _, rfl, iteD (by rw [List.length_map]; exact hm) ?_⟩
    refine ⟨_, rfl, a, rfl, ⟨_, SqL.of ha⟩, fun Dn hD => lc_list (K := K) (a := a) (xs := vB r) (fun i H' => Tru H Dn i H')
      ⟨Same.upd hD, upd_same⟩ (fun i H' _ h => SqL.of (h.1 _ _ ha)) ?_ ?_⟩
    · rintro i v H1 hv h1
      have hi : i < r.length := by have := (List.getElem?_eq_some_iff.mp hv).1; simpa using this
      rw [List.getElem?_map, List.getElem?_eq_getElem hi] at hv
      cases Option.some.inj hv
      refine ⟨rfl, yesT ?_⟩
      refine ⟨_, rfl, _, _, _, true, rfl, TyOf.bl _, rfl, ?_⟩
      exact Tru.next hD h1 (by omega)
    · rintro H' ⟨s1, hD1⟩
      refine ⟨Dn, _, rfl, SqL.of hD1, ?_⟩
      rw [all_rep]
      exact k H' s1
/-! ### are_moves -/
def spAreMoves : Sp := fun vs H Q _ => ∃ (a : Addr) (rs : List V) (mv : List (List Nat)) (p : Int) (m : Nat), vs = [.ref a, .int p, .int m] ∧ H a = some (.lst rs) ∧ Rows H rs (mv.map vI) ∧ 1 ≤ mv.length ∧ mv.length ≤ m ∧ m ≤ 40 ∧ (∀ r ∈ mv, (r.length : Int) = p ∧ r.length ≤ 10000 ∧ ∀ g ∈ r, g < mv.length) ∧ ∀ H', Same H H' → Q (.bl true) H'
theorem sc12 : FnScope ["value", "many", "most", "row"] ["value", "many", "most"] (defScope (top 16)) := ⟨rfl, rfl, rfl, by decide +kernel, rfl, by decide +kernel, by decide +kernel⟩
theorem ok_aremoves {f f10 : Addr} {fd fd10 : FuncData} (D : Def K mg "are_moves" (top 16) ["value", "many", "most"] f fd) (T : BI mg) (D10 : Def K mg "are_states" (top 14) ["value", "many", "states"] f10 fd10)
    (G10 : FnOk P w K mg base CX0 3 f10 fd10 ["value", "many", "states"] spAreStates) : FnOk P w K mg base CX0 4 f fd ["value", "many", "most"] spAreMoves := by
  refine D.F.ok sc12 (fun vs H Q E h => ?_) (fun cdv A outer s H vs Q E hr h => ?_)
  · obtain ⟨a, rs, mv, p, m, rfl, _⟩ := h; rfl
  · obtain ⟨a, rs, mv, p, m, rfl, ha, hR, h1, hm, h40, hrow, k⟩ := h
    have hl : rs.length = mv.length := by rw [hR.len, List.length_map]
    refine ⟨_, pss_cons (ps_if (PW.pt (pw_or (pt_not (pt_val (pe_callB call_isinst (by rfl) T.isinstance (by decide +kernel) (pa_cons (pv 0) (pa_cons (pe_bltn (v := .ty "list") (by rfl) T.list (by decide +kernel) rfl) pa_nil)))))
        (pw_or1 (pt_not (pt_chain op_le op_le pe_int (pe_callB call_len_seq (by rfl) T.len PySem.boot_len (pa_cons (pv 0) pa_nil)) (pv 2)))))) (pss_one (ps_ret pe_bl)) pss_nil)
      (pss_one (ps_ret (pe_callB (cr_all rfl) (by rfl) T.all (by decide +kernel) (pa_cons
        (pe_lc (own := [("row", 3)]) (g := gName 3) (by rfl) sc12.nd (pi_list (pv 0))
          (blkOk_by (own := [("row", 3)]) (N := ["value", "many", "most", "row"]) (sc := defScope (top 16)) (by decide +kernel))
          (fun _ _ _ _ _ => pg_name (i := 3) sc12.nd rfl (Or.inl rfl)) (fun _ _ _ _ _ => pts_nil)
          (fun _ _ _ _ _ => pe_call G10 (hr.mono (by decide)) (by rfl) D10.m D10.F.kp D10.b .nil pass0 (pa_cons (pv 3) (pa_cons (pv 1) (pa_cons (pe_callB (call_lenK K) (by rfl) T.len PySem.boot_len (pa_cons (pv 0) pa_nil)) pa_nil))))) pa_nil)))), ?_⟩
    refine ⟨_, rfl, _, _, _, _, rfl, TyOf.lst ha, rfl, _, rfl, iteF ?_⟩
    refine ⟨_, rfl, _, _, rfl, .inl (SqL.of ha), _, _, rfl, rfl, _, rfl, iteD (by omega) ⟨_, rfl, _, _, rfl, rfl, _, rfl, ?_⟩⟩
    rw [decide_eq_true (show (rs.length : Int) ≤ (m : Int) by omega)]
    refine iteF ?_
    refine ⟨_, rfl, a, rfl, ⟨_, SqL.of ha⟩, fun Dn hD => lc_list (K := K) (a := a) (xs := rs) (fun i H' => Tru H Dn i H')
      ⟨Same.upd hD, upd_same⟩ (fun i H' _ h => SqL.of (h.1 _ _ ha)) ?_ ?_⟩
    · rintro i v H1 hv h1'
      have hi : i < rs.length := (List.getElem?_eq_some_iff.mp hv).1
      obtain ⟨q, xs, rfl, hx, hq⟩ := hR.to hv
      have hi' : i < mv.length := by omega
      rw [List.getElem?_map, List.getElem?_eq_getElem hi'] at hx
      cases Option.some.inj hx
      obtain ⟨e1, e2, e3⟩ := hrow _ (List.getElem_mem hi')
      refine ⟨rfl, yesT ?_⟩
      refine ⟨_, rfl, _, rfl, _, rfl, _, _, rfl, .inl (SqL.of (h1'.1 _ _ ha)), q, _, _, _, rfl, h1'.1 _ _ hq, e1, fun g hg => by have := e3 g hg; omega, e2, fun H2 s2 => ?_⟩
      exact Tru.next (hD) ⟨h1'.1.trans s2, s2 _ _ h1'.2⟩ (by omega)
    · rintro H' ⟨s1, hD1⟩
      refine ⟨Dn, _, rfl, SqL.of hD1, ?_⟩
      rw [all_rep]
      exact k H' s1
/-! ### are_middles -/
def spAreMiddles : Sp := fun vs H Q _ => ∃ (a : Addr) (qs : List V) (md : List (List Bool)) (n m : Int), vs = [.ref a, .int n, .int m] ∧ H a = some (.lst qs) ∧ Rows H qs (md.map vB) ∧ (md.length : Int) = n ∧ md.length ≤ 40 ∧ (∀ r ∈ md, (r.length : Int) = m ∧ r.length ≤ 10000) ∧ ∀ H', Same H H' → Q (.bl true) H'
theorem sc13 : FnScope ["value", "states", "many", "row"] ["value", "states", "many"] (defScope (top 17)) := ⟨rfl, rfl, rfl, by decide +kernel, rfl, by decide +kernel, by decide +kernel⟩
theorem ok_aremiddles {f f8 f11 : Addr} {fd fd8 fd11 : FuncData} (D : Def K mg "are_middles" (top 17) ["value", "states", "many"] f fd) (T : BI mg) (D8 : Def K mg "is_list_of" (top 11) ["value", "many"] f8 fd8)
    (D11 : Def K mg "are_truths" (top 15) ["value", "many"] f11 fd11) : FnOk P w K mg base CX0 3 f fd ["value", "states", "many"] spAreMiddles := by
  have G8 : FnOk P w K mg base CX0 1 f8 fd8 ["value", "many"] spIsListOf := ok_islistof D8 T
  have G11 : FnOk P w K mg base CX0 2 f11 fd11 ["value", "many"] spAreTruths := ok_aretruths D11 T D8
  refine D.F.ok sc13 (fun vs H Q E h => ?_) (fun cdv A outer s H vs Q E hr h => ?_)
  · obtain ⟨a, qs, md, n, m, rfl, _⟩ := h; rfl
  · obtain ⟨a, qs, md, n, m, rfl, ha, hR, hn, h40, hrow, k⟩ := h
    have hl : qs.length = md.length := by rw [hR.len, List.length_map]
    refine ⟨_, pss_one (ps_ret (pe_and (pe_call G8 (hr.mono (by decide)) (by rfl) D8.m D8.F.kp D8.b .nil pass0 (pa_cons (pv 0) (pa_cons (pv 1) pa_nil)))
      (pe_one (pe_callB (cr_all rfl) (by rfl) T.all (by decide +kernel) (pa_cons
        (pe_lc (own := [("row", 3)]) (g := gName 3) (by rfl) sc13.nd (pi_list (pv 0))
          (blkOk_by (own := [("row", 3)]) (N := ["value", "states", "many", "row"]) (sc := defScope (top 17)) (by decide +kernel))
          (fun _ _ _ _ _ => pg_name (i := 3) sc13.nd rfl (Or.inl rfl)) (fun _ _ _ _ _ => pts_nil)
          (fun _ _ _ _ _ => pe_call G11 (hr.mono (by decide)) (by rfl) D11.m D11.F.kp D11.b .nil pass0 (pa_cons (pv 3) (pa_cons (pv 2) pa_nil)))) pa_nil))))), ?_⟩
    refine ⟨_, rfl, _, rfl, a, _, n, rfl, ha, _, rfl, iteD (by omega) ?_⟩
    refine ⟨_, rfl, a, rfl, ⟨_, SqL.of ha⟩, fun Dn hD => lc_list (K := K) (a := a) (xs := qs) (fun i H' => Tru H Dn i H')
      ⟨Same.upd hD, upd_same⟩ (fun i H' _ h => SqL.of (h.1 _ _ ha)) ?_ ?_⟩
    · rintro i v H1 hv h1'
      have hi : i < qs.length := (List.getElem?_eq_some_iff.mp hv).1
      obtain ⟨q, xs, rfl, hx, hq⟩ := hR.to hv
      have hi' : i < md.length := by omega
      rw [List.getElem?_map, List.getElem?_eq_getElem hi'] at hx
      cases Option.some.inj hx
      obtain ⟨e1, e2⟩ := hrow _ (List.getElem_mem hi')
      refine ⟨rfl, yesT ?_⟩
      refine ⟨_, rfl, _, rfl, q, _, _, rfl, h1'.1 _ _ hq, e1, e2, fun H2 s2 => ?_⟩
      exact Tru.next hD ⟨h1'.1.trans s2, s2 _ _ h1'.2⟩ (by omega)
    · rintro H' ⟨s1, hD1⟩
      refine ⟨Dn, _, rfl, SqL.of hD1, ?_⟩
      rw [all_rep]
      exact k H' s1
/-! ### is_machine, check_machine -/
def spIsMachine : Sp := fun vs H Q _ => ∃ v M, vs = [v] ∧ MAt H v M ∧ M.Ok ∧ ∀ H', Same H H' → Q (.bl true) H'
theorem sc14 : FnScope ["value", "letters", "moves", "ends", "middles", "many"] ["value"] (defScope (top 18)) := ⟨rfl, rfl, rfl, by decide +kernel, rfl, by decide +kernel, by decide +kernel⟩
theorem ok_ismachine {f f9 f12 f11 f13 : Addr} {fd fd9 fd12 fd11 fd13 : FuncData} (D : Def K mg "is_machine" (top 18) ["value"] f fd) (T : BI mg) (C : CO mg)
    (D9 : Def K mg "are_letters" (top 12) ["value"] f9 fd9) (G9 : FnOk P w K mg base CX0 1 f9 fd9 ["value"] spAreLetters)
    (D12 : Def K mg "are_moves" (top 16) ["value", "many", "most"] f12 fd12) (G12 : FnOk P w K mg base CX0 4 f12 fd12 ["value", "many", "most"] spAreMoves)
    (D11 : Def K mg "are_truths" (top 15) ["value", "many"] f11 fd11) (G11 : FnOk P w K mg base CX0 2 f11 fd11 ["value", "many"] spAreTruths)
    (D13 : Def K mg "are_middles" (top 17) ["value", "states", "many"] f13 fd13) (G13 : FnOk P w K mg base CX0 3 f13 fd13 ["value", "states", "many"] spAreMiddles) : FnOk P w K mg base CX0 5 f fd ["value"] spIsMachine := by
  refine D.F.ok sc14 (fun vs H Q E h => ?_) (fun cdv A outer s H vs Q E hr h => ?_)
  · obtain ⟨v, M, rfl, _⟩ := h; rfl
  · obtain ⟨v, M, rfl, ⟨a, pm, pe, pq, rs, qs, rfl, h1, h2, h3, h4, h5, h6⟩, ok, k⟩ := h
    obtain ⟨tms, ems⟩ := C.ms
    refine ⟨_, pss_cons (ps_if (PW.pt (pw_or (pt_not (pt_val (pe_callB call_isinst (by rfl) T.isinstance (by decide +kernel) (pa_cons (pv 0) (pa_cons (pe_bltn (v := .ty "tuple") (by rfl) T.tuple (by decide +kernel) rfl) pa_nil)))))
        (pw_or1 (pt_cmp (pc_neI (pe_callB call_len_seq (by rfl) T.len PySem.boot_len (pa_cons (pv 0) pa_nil)) pe_int))))) (pss_one (ps_ret pe_bl)) pss_nil)
      (pss_cons (ps_asg (pv 0) (pg_tup (by rfl) (pgs_cons (pg_name (i := 1) sc14.nd rfl (Or.inl rfl)) (pgs_cons (pg_name (i := 2) sc14.nd rfl (Or.inl rfl)) (pgs_cons (pg_name (i := 3) sc14.nd rfl (Or.inl rfl)) (pgs_cons (pg_name (i := 4) sc14.nd rfl (Or.inl rfl)) pgs_nil))))))
      (pss_cons (ps_if (pt_not (pt_val (pe_call G9 (hr.mono (by decide)) (by rfl) D9.m D9.F.kp D9.b .nil pass0 (pa_cons (pv 1) pa_nil)))) (pss_one (ps_ret pe_bl)) pss_nil)
      (pss_cons (ps_set (i := 5) sc14.nd rfl (Or.inl rfl) (pe_callB call_len_str (by rfl) T.len PySem.boot_len (pa_cons (pv 1) pa_nil)))
      (pss_cons (ps_if (pt_not (pt_val (pe_call G12 (hr.mono (by decide)) (by rfl) D12.m D12.F.kp D12.b .nil pass0 (pa_cons (pv 2) (pa_cons (pe_op op_mul (pv 5) (pv 5)) (pa_cons (pe_glob (v := .int 40) (by rfl) ems ⟨_, rfl⟩) pa_nil)))))) (pss_one (ps_ret pe_bl)) pss_nil)
      (pss_one (ps_ret (pe_and (pe_call G11 (hr.mono (by decide)) (by rfl) D11.m D11.F.kp D11.b .nil pass0 (pa_cons (pv 3) (pa_cons (pe_callB call_len_seq (by rfl) T.len PySem.boot_len (pa_cons (pv 2) pa_nil)) pa_nil)))
        (pe_one (pe_call G13 (hr.mono (by decide)) (by rfl) D13.m D13.F.kp D13.b .nil pass0 (pa_cons (pv 4) (pa_cons (pe_callB call_len_seq (by rfl) T.len PySem.boot_len (pa_cons (pv 2) pa_nil)) (pa_cons (pv 5) pa_nil)))))))))))), ?_⟩
    have hk3 : M.k ≤ 3 := ok.let_.k3
    have hz : M.letters.length ≤ sizeLine := sz_le (by show M.k ≤ _; omega)
    have hrl : rs.length = M.moves.length := by rw [h3.len, List.length_map]
    have h40 := ok.n40
    have hn1 := ok.n1
    refine ⟨_, rfl, _, _, _, _, rfl, TyOf.tup h1, rfl, _, rfl, iteF ?_⟩
    refine ⟨_, rfl, _, _, rfl, .inr (SqT.of h1), _, _, rfl, rfl, _, rfl, ?_⟩
    refine iteF ?_
    refine ⟨_, rfl, a, _, rfl, SqT.of h1, rfl, _, _, rfl, _, _, rfl, _, _, rfl, _, _, rfl, rfl, ?_⟩
    refine ⟨_, rfl, _, rfl, ok.let_, fun H1 s1 => ⟨_, rfl, iteF ?_⟩⟩
    refine ⟨_, rfl, _, rfl, hz, ?_⟩
    have kk : ((M.letters.length : Nat) : Int) = (M.k : Int) := rfl
    have hk9 : M.k * M.k ≤ 9 := Nat.mul_le_mul hk3 hk3
    refine ⟨_, rfl, _, rfl, _, rfl, _, _, rfl, rfl, .inl ⟨by rw [kk]; omega, by rw [kk]; omega⟩, pm, rs, M.moves, _, 40, rfl, s1 _ _ h2, h3.same s1, hn1, h40, Nat.le_refl _, fun r hr' => ?_, fun H2 s2 => ⟨_, rfl, iteF ?_⟩⟩
    · obtain ⟨e1, e2⟩ := ok.rows r hr'
      refine ⟨?_, by omega, e2⟩
      rw [e1, kk]
      first | done | simp
    have s12 := s1.trans s2
    refine ⟨_, rfl, _, rfl, _, _, rfl, .inl (SqL.of (s12 _ _ h2)), pe, M.ends, _, rfl, s12 _ _ h4, by rw [ok.ends]; omega, by rw [ok.ends]; omega, fun H3 s3 => ⟨_, rfl, iteT ?_⟩⟩
    have s13 := s12.trans s3
    refine ⟨_, rfl, _, rfl, _, _, rfl, .inl (SqL.of (s13 _ _ h2)), _, rfl, pq, qs, M.mids, _, _, rfl, s13 _ _ h5, h6.same s13, by rw [ok.mids]; omega, by rw [ok.mids]; omega, fun r hr' => ?_, fun H4 s4 => k H4 (s13.trans s4)⟩
    have e1 := ok.mrows r hr'
    exact ⟨by rw [e1]; rfl, by omega⟩
def spCheckMachine : Sp := fun vs H Q _ => ∃ v M, vs = [v] ∧ MAt H v M ∧ M.Ok ∧ ∀ H', Same H H' → Q .non H'
theorem sc15 : FnScope ["machine"] ["machine"] (defScope (top 20)) := ⟨rfl, rfl, rfl, by decide +kernel, rfl, by decide +kernel, by decide +kernel⟩
theorem ok_checkmachine {f f14 : Addr} {fd fd14 : FuncData} (D : Def K mg "check_machine" (top 20) ["machine"] f fd) (D14 : Def K mg "is_machine" (top 18) ["value"] f14 fd14) (G14 : FnOk P w K mg base CX0 5 f14 fd14 ["value"] spIsMachine) :
    FnOk P w K mg base CX0 6 f fd ["machine"] spCheckMachine := by
  refine D.F.ok sc15 (fun vs H Q E h => ?_) (fun cdv A outer s H vs Q E hr h => ?_)
  · obtain ⟨v, M, rfl, _⟩ := h; rfl
  · obtain ⟨v, M, rfl, hM, ok, k⟩ := h
    refine ⟨_, pss_one (ps_if (pt_not (pt_val (pe_call G14 (hr.mono (by decide)) (by rfl) D14.m D14.F.kp D14.b .nil pass0 (pa_cons (pv 0) pa_nil)))) pss_never pss_nil), ?_⟩
    exact ⟨_, rfl, _, M, rfl, hM, ok, fun H1 s1 => ⟨_, rfl, iteF (k H1 s1)⟩⟩
end
end Be

namespace Be
open PySem L2
/-! ### slices of texts -/
theorem cut_take (x : Str) (h : Nat) : (cutS x none (some (h : Int))).cps.toList = x.cps.toList.take h := by
  show (((x.cps.toList.drop (HT.sIx x.length 0 none)).take (HT.sIx x.length x.length (some (h : Int)) - HT.sIx x.length 0 none)).toArray).toList = _
  rw [HT.sIx_none, HT.sIx_nat, List.toList_toArray, List.drop_zero, Nat.sub_zero]
  have e : x.length = x.cps.toList.length := by simp; rfl
  rw [e]
  by_cases hh : h ≤ x.cps.toList.length
  · rw [Nat.min_eq_left hh]
  · rw [Nat.min_eq_right (by omega), List.take_of_length_le (Nat.le_refl _), List.take_of_length_le (by omega)]
theorem cut_drop (x : Str) (k : Nat) : (cutS x (some (k : Int)) none).cps.toList = x.cps.toList.drop k := by
  show (((x.cps.toList.drop (HT.sIx x.length 0 (some (k : Int)))).take (HT.sIx x.length x.length none - HT.sIx x.length 0 (some (k : Int)))).toArray).toList = _
  rw [HT.sIx_none, HT.sIx_nat, List.toList_toArray]
  have e : x.length = x.cps.toList.length := by simp; rfl
  rw [e]
  by_cases hh : k ≤ x.cps.toList.length
  · rw [Nat.min_eq_left hh, List.take_of_length_le (by simp)]
  · rw [Nat.min_eq_right (by omega), List.drop_of_length_le (Nat.le_refl _), List.drop_of_length_le (by omega)]; simp
theorem rev_list (x : Str) : (revS x).cps.toList = x.cps.toList.reverse := by show (x.cps.toList.reverse.toArray).toList = _; rw [List.toList_toArray]
abbrev Over (L x : Str) : Prop := ∀ c ∈ x.cps.toList, c ∈ L.cps.toList
section
variable {P : Program} {w : World} {K : PySem.W.Frag} {mg : Str → Option Value} {base : Heap}
/-! ### is_text_of -/
def spIsTextOf : Sp := fun vs H Q _ => ∃ (L x : Str), vs = [.str L, .str x] ∧ x.cps.size ≤ 10000 ∧ Over L x ∧ ∀ H', Same H H' → Q (.bl true) H'
theorem scTO : FnScope ["letters", "value", "letter"] ["letters", "value"] (defScope (top 19)) := ⟨rfl, rfl, rfl, by decide +kernel, rfl, by decide +kernel, by decide +kernel⟩
theorem ok_istextof {f : Addr} {fd : FuncData} (D : Def K mg "is_text_of" (top 19) ["letters", "value"] f fd) (T : BI mg) : FnOk P w K mg base CX0 1 f fd ["letters", "value"] spIsTextOf := by
  refine D.F.ok scTO (fun vs H Q E h => ?_) (fun cdv A outer s H vs Q E hr h => ?_)
  · obtain ⟨L, x, rfl, _⟩ := h; rfl
  · obtain ⟨L, x, rfl, hs, ho, k⟩ := h
    refine ⟨_, pss_one (ps_ret (pe_and (pe_callB call_isinst (by rfl) T.isinstance (by decide +kernel) (pa_cons (pv 1) (pa_cons (pe_bltn (v := .ty "str") (by rfl) T.str (by decide +kernel) rfl) pa_nil)))
      (pe_one (pe_callB (cr_all rfl) (by rfl) T.all (by decide +kernel) (pa_cons
        (pe_lc (own := [("letter", 2)]) (g := gName 2) (by rfl) scTO.nd (pi_str (pv 1))
          (blkOk_by (own := [("letter", 2)]) (N := ["letters", "value", "letter"]) (sc := defScope (top 19)) (by decide +kernel))
          (fun _ _ _ _ _ => pg_name (i := 2) scTO.nd rfl (Or.inl rfl)) (fun _ _ _ _ _ => pts_nil)
          (fun _ _ _ _ _ => pe_cmpR op_in_sign (pv 2) (pv 0) (by rfl))) pa_nil))))), ?_⟩
    refine ⟨_, rfl, _, _, _, _, rfl, TyOf.str _, rfl, _, rfl, iteT ?_⟩
    refine ⟨_, rfl, x, rfl, fun Dn hD => lc_it (n := x.cps.size) (fun i H' => Tru H Dn i H')
      ⟨Same.upd hD, upd_same⟩ (fun i H' hi _ => hi) (fun H' _ => Nat.le_refl _) ?_ ?_⟩
    · rintro i v H1 H2 hi h1 ⟨rfl, c, hc, rfl⟩
      refine ⟨rfl, yesT ?_⟩
      refine ⟨_, rfl, _, rfl, c, L, rfl, rfl, ?_⟩
      dsimp only
      rw [decide_eq_true (ho c (by rw [← Array.getElem?_toList] at hc; exact List.mem_of_getElem? hc))]
      exact Tru.next hD h1 (by omega)
    · rintro H' ⟨s1, hD1⟩
      refine ⟨Dn, _, rfl, SqL.of hD1, ?_⟩
      rw [all_rep]
      exact k H' s1
/-! ### check_word -/
def spCheckWord : Sp := fun vs H Q _ => ∃ (L x : Str) (m : Int), vs = [.str L, .str x, .int m] ∧ (x.cps.size : Int) ≤ m ∧ x.cps.size ≤ 10000 ∧ Over L x ∧ ∀ H', Same H H' → Q .non H'
theorem sc16 : FnScope ["letters", "word", "most"] ["letters", "word", "most"] (defScope (top 21)) := ⟨rfl, rfl, rfl, by decide +kernel, rfl, by decide +kernel, by decide +kernel⟩
theorem ok_checkword {f fto : Addr} {fd fdto : FuncData} (D : Def K mg "check_word" (top 21) ["letters", "word", "most"] f fd) (T : BI mg) (Dto : Def K mg "is_text_of" (top 19) ["letters", "value"] fto fdto) : FnOk P w K mg base CX0 2 f fd ["letters", "word", "most"] spCheckWord := by
  have Gto : FnOk P w K mg base CX0 1 fto fdto ["letters", "value"] spIsTextOf := ok_istextof Dto T
  refine D.F.ok sc16 (fun vs H Q E h => ?_) (fun cdv A outer s H vs Q E hr h => ?_)
  · obtain ⟨L, x, m, rfl, _⟩ := h; rfl
  · obtain ⟨L, x, m, rfl, hm, hs, ho, k⟩ := h
    refine ⟨_, pss_one (ps_if (PW.pt (pw_or (pt_not (pt_val (pe_callB call_isinst (by rfl) T.isinstance (by decide +kernel) (pa_cons (pv 1) (pa_cons (pe_bltn (v := .ty "str") (by rfl) T.str (by decide +kernel) rfl) pa_nil)))))
      (pw_or (pt_cmp (pc_gt (pe_callB call_len_str (by rfl) T.len PySem.boot_len (pa_cons (pv 1) pa_nil)) (pv 2)))
      (pw_or1 (pt_not (pt_val (pe_call Gto hr (by rfl) Dto.m Dto.F.kp Dto.b .nil pass0 (pa_cons (pv 0) (pa_cons (pv 1) pa_nil))))))))) pss_never pss_nil), ?_⟩
    have hz : x.length ≤ sizeLine := sz_le (by show x.cps.size ≤ _; omega)
    refine ⟨_, rfl, _, _, _, _, rfl, TyOf.str _, rfl, _, rfl, iteF ?_⟩
    refine ⟨_, rfl, _, rfl, hz, _, rfl, _, _, rfl, rfl, _, rfl, ?_⟩
    refine iteND (show ¬ (m < ((x.length : Nat) : Int)) by show ¬ (m < ((x.cps.size : Nat) : Int)); omega) ?_
    exact ⟨_, rfl, _, rfl, _, _, rfl, hs, ho, fun H1 s1 => ⟨_, rfl, iteF (k H1 s1)⟩⟩
/-! ### pair_at -/
def spPairAt : Sp := fun vs H Q _ => ∃ (L : Str) (a b : Nat), vs = [.str L, .str ⟨#[a]⟩, .str ⟨#[b]⟩] ∧ a ∈ L.cps.toList ∧ b ∈ L.cps.toList ∧ L.cps.size ≤ 1000 ∧ Q (.int ((L.cps.toList.idxOf a * L.cps.size + L.cps.toList.idxOf b : Nat) : Int)) H
theorem sc21 : FnScope ["letters", "first", "last"] ["letters", "first", "last"] (defScope (top 25)) := ⟨rfl, rfl, rfl, by decide +kernel, rfl, by decide +kernel, by decide +kernel⟩
theorem ok_pairat {f : Addr} {fd : FuncData} (D : Def K mg "pair_at" (top 25) ["letters", "first", "last"] f fd) (T : BI mg) : FnOk P w K mg base CX0 1 f fd ["letters", "first", "last"] spPairAt := by
  refine D.F.ok sc21 (fun vs H Q E h => ?_) (fun cdv A outer s H vs Q E hr h => ?_)
  · obtain ⟨L, a, b, rfl, _⟩ := h; rfl
  · obtain ⟨L, a, b, rfl, ha, hb, hl, k⟩ := h
    refine ⟨_, pss_one (ps_ret (pe_op op_add (pe_op op_mul (pe_sindex (pv 0) (pv 1)) (pe_callB call_len_str (by rfl) T.len PySem.boot_len (pa_cons (pv 0) pa_nil))) (pe_sindex (pv 0) (pv 2)))), ?_⟩
    refine ⟨_, rfl, ⟨_, rfl⟩, _, rfl, L, a, rfl, rfl, ha, _, rfl, L, rfl, sz_le (by show L.cps.size ≤ _; omega), _, _, rfl, rfl, .inr ?_, _, rfl, ⟨_, rfl⟩, _, rfl, L, b, rfl, rfl, hb, _, _, rfl, rfl, ?_⟩
    · show -(2 ^ 64) < ((L.cps.size : Nat) : Int) ∧ ((L.cps.size : Nat) : Int) < 2 ^ 64
      omega
    · have e : (((L.cps.toList.idxOf a : Nat) : Int) * ((L.length : Nat) : Int) + ((L.cps.toList.idxOf b : Nat) : Int)) = ((L.cps.toList.idxOf a * L.cps.size + L.cps.toList.idxOf b : Nat) : Int) := by
        show (((L.cps.toList.idxOf a : Nat) : Int) * ((L.cps.size : Nat) : Int) + ((L.cps.toList.idxOf b : Nat) : Int)) = _
        rw [Int.natCast_add, Int.natCast_mul]
      dsimp only
      rw [e]
      exact k
/-! ### state_behind -/
def spStateBehind : Sp := fun vs H Q _ => ∃ (v : V) (M : Mach) (l r : Str), vs = [v, .str l, .str r] ∧ MAt H v M ∧ M.Ok ∧ Over M.letters l ∧ Over M.letters r ∧ l.cps.size = r.cps.size ∧ l.cps.size ≤ 10000 ∧ ∀ H', Same H H' → Q (.int (M.bhd l.cps.toList r.cps.toList : Nat)) H'
theorem sc22 : FnScope ["machine", "left", "right", "letters", "moves", "state", "first", "last"] ["machine", "left", "right"] (defScope (top 26)) := ⟨rfl, rfl, rfl, by decide +kernel, rfl, by decide +kernel, by decide +kernel⟩
theorem run_snoc (M : Mach) (q : Nat) (ps : List (Nat × Nat)) (p : Nat × Nat) : M.run q (ps ++ [p]) = M.stp (M.run q ps) p := by
  unfold Mach.run; rw [List.foldl_append]; rfl
theorem ok_statebehind {f f21 : Addr} {fd fd21 : FuncData} (D : Def K mg "state_behind" (top 26) ["machine", "left", "right"] f fd) (T : BI mg) (D21 : Def K mg "pair_at" (top 25) ["letters", "first", "last"] f21 fd21) :
    FnOk P w K mg base CX0 2 f fd ["machine", "left", "right"] spStateBehind := by
  have G21 : FnOk P w K mg base CX0 1 f21 fd21 ["letters", "first", "last"] spPairAt := ok_pairat D21 T
  refine D.F.ok sc22 (fun vs H Q E h => ?_) (fun cdv A outer s H vs Q E hr h => ?_)
  · obtain ⟨v, M, l, r, rfl, _⟩ := h; rfl
  · obtain ⟨v, M, l, r, rfl, ⟨a, pm, pe, pq, rs, qs, rfl, h1, h2, h3, h4, h5, h6⟩, ok, hol, hor, hlr, hl, k⟩ := h
    refine ⟨_, pss_cons (ps_par (by rfl) sc22.nd (i := 3) (j := 4) rfl rfl (by decide) rfl rfl (pa_cons (pe_ix ix_tup (pv 0) pe_int (fun _ _ => rfl)) (pa_cons (pe_ix ix_tup (pv 0) pe_int (fun _ _ => rfl)) pa_nil)) (by rfl))
      (pss_cons (ps_set (i := 5) sc22.nd rfl (Or.inl rfl) pe_int)
      (pss_cons (ps_for PassesOwn.never rfl (pi_zipS (by rfl) T.zip (pa_cons (pv 1) (pa_cons (pe_rev (pv 2)) pa_nil)))
        (pg_tup rfl (pgs_cons (pg_name (i := 6) sc22.nd rfl (Or.inl rfl)) (pgs_cons (pg_name (i := 7) sc22.nd rfl (Or.inl rfl)) pgs_nil)))
        (pss_one (ps_set (i := 5) sc22.nd rfl (Or.inl rfl) (pe_ix ix_list (pe_ix ix_list (pv 4) (pv 5) (fun _ _ => rfl)) (pe_call G21 hr (by rfl) D21.m D21.F.kp D21.b .nil pass0 (pa_cons (pv 3) (pa_cons (pv 6) (pa_cons (pv 7) pa_nil)))) (fun _ _ => rfl)))))
      (pss_one (ps_ret (pv 5))))), ?_⟩
    refine ⟨_, rfl, a, _, _, _, rfl, rfl, SqT.of h1, rfl, _, rfl, a, _, _, _, rfl, rfl, SqT.of h1, rfl, _, _, rfl, ?_⟩
    have hrs : (revS r).cps.size = r.cps.size := by
      have := congrArg List.length (rev_list r)
      simpa using this
    refine ⟨_, rfl, _, rfl, r, rfl, sz_le (by show r.cps.size ≤ _; omega), l, _, rfl, for_it (n := l.cps.size) (fun i σ H' => ∃ x y, σ = [some (.ref a), some (.str l), some (.str r), some (.str M.letters), some (.ref pm), some (.int (M.run 0 ((l.cps.toList.zip r.cps.toList.reverse).take i) : Nat)), x, y] ∧ Same H H')
      ⟨none, none, rfl, Same.refl _⟩ (fun i σ H' hi _ => ⟨hi, by rw [hrs, ← hlr]; exact hi⟩) (fun σ H' _ => .inl rfl) ?_ ?_⟩
    · rintro i v σ H1 H2 hi ⟨x, y, rfl, s1⟩ ⟨Tp, c, d, rfl, hT, rfl, hc, hd⟩
      have hc' : l.cps.toList[i]? = some c := by rw [Array.getElem?_toList]; exact hc
      have hd' : r.cps.toList.reverse[i]? = some d := by rw [← rev_list, Array.getElem?_toList]; exact hd
      have hz : (l.cps.toList.zip r.cps.toList.reverse)[i]? = some (c, d) := by rw [List.getElem?_zip_eq_some]; exact ⟨hc', hd'⟩
      have mc : c ∈ M.L := hol c (List.mem_of_getElem? hc')
      have md : d ∈ M.L := hor d (List.mem_reverse.mp (List.mem_of_getElem? hd'))
      have hq : M.run 0 ((l.cps.toList.zip r.cps.toList.reverse).take i) < M.n := Mach.run_lt ok _ _ ok.n1 fun p hp => by
        obtain ⟨q1, q2⟩ := List.of_mem_zip (List.mem_of_mem_take hp)
        exact ⟨hol _ q1, hor _ (List.mem_reverse.mp q2)⟩
      obtain ⟨row, er, ec, _⟩ := Mach.cell ok hq mc md
      have er' : (M.moves.map vI)[M.run 0 ((l.cps.toList.zip r.cps.toList.reverse).take i)]? = some (vI row) := by rw [List.getElem?_map, er]; rfl
      obtain ⟨p, hp, hpl⟩ := h3.at er'
      have s2 : Same H (upd H1 Tp (.tup [.str ⟨#[c]⟩, .str ⟨#[d]⟩])) := s1.trans (Same.upd hT)
      refine ⟨Tp, _, rfl, SqT.of upd_same, rfl, _, _, rfl, _, _, rfl, rfl, ?_⟩
      refine ⟨_, rfl, _, rfl, pm, rs, _, _, rfl, rfl, SqL.of (s2 _ _ h2), atI_nat hp, ?_⟩
      refine ⟨_, rfl, _, rfl, _, rfl, M.letters, c, d, rfl, mc, md, by have := ok.let_.k3; omega, ?_⟩
      refine ⟨p, vI row, _, _, rfl, rfl, SqL.of (s2 _ _ hpl), atI_nat (by rw [List.getElem?_map, show row[M.letters.cps.toList.idxOf c * M.letters.cps.size + M.letters.cps.toList.idxOf d]? = _ from ec]; rfl), ?_⟩
      refine ⟨some (.str ⟨#[c]⟩), some (.str ⟨#[d]⟩), ?_, s2⟩
      rw [List.take_succ_eq_append_getElem (by exact (List.getElem?_eq_some_iff.mp hz).1), (List.getElem?_eq_some_iff.mp hz).2, run_snoc]
      rfl
    · rintro σ H' ⟨x, y, rfl, s1⟩
      refine ⟨_, rfl, ?_⟩
      rw [List.take_of_length_le (by simp; omega)]
      exact k H' s1
end
end Be

namespace Be
open PySem L2
theorem ite2D {c A B : Prop} [Decidable c] (h1 : c → A) (h2 : ¬ c → B) : if decide c = true then A else B := by
  by_cases h : c
  · exact iteD h (h1 h)
  · exact iteND h (h2 h)
section
variable {P : Program} {w : World} {K : PySem.W.Frag} {mg : Str → Option Value} {base : Heap}
def spReads : Sp := fun vs H Q _ => ∃ (v : V) (M : Mach) (x : Str), vs = [v, .str x] ∧ MAt H v M ∧ M.Ok ∧ Over M.letters x ∧ x.cps.size ≤ 10000 ∧ ∀ H', Same H H' → Q (.bl (M.has x.cps.toList)) H'
theorem scRd : FnScope ["machine", "word", "letters", "moves", "ends", "middles", "half", "state"] ["machine", "word"] (defScope (top 27)) := ⟨rfl, rfl, rfl, by decide +kernel, rfl, by decide +kernel, by decide +kernel⟩
theorem ok_reads {f f22 : Addr} {fd fd22 : FuncData} (D : Def K mg "reads" (top 27) ["machine", "word"] f fd) (T : BI mg)
    (D22 : Def K mg "state_behind" (top 26) ["machine", "left", "right"] f22 fd22) (G22 : FnOk P w K mg base CX0 2 f22 fd22 ["machine", "left", "right"] spStateBehind) :
    FnOk P w K mg base CX0 3 f fd ["machine", "word"] spReads := by
  refine D.F.ok scRd (fun vs H Q E h => ?_) (fun cdv A outer s H vs Q E hr h => ?_)
  · obtain ⟨v, M, x, rfl, _⟩ := h; rfl
  · obtain ⟨v, M, x, rfl, hM, ok, ho, hl, k⟩ := h
    obtain ⟨a, pm, pe, pq, rs, qs, rfl, h1, h2, h3, h4, h5, h6⟩ := id hM
    refine ⟨_, pss_cons (ps_asg (pv 0) (pg_tup (by rfl) (pgs_cons (pg_name (i := 2) scRd.nd rfl (Or.inl rfl)) (pgs_cons (pg_name (i := 3) scRd.nd rfl (Or.inl rfl)) (pgs_cons (pg_name (i := 4) scRd.nd rfl (Or.inl rfl)) (pgs_cons (pg_name (i := 5) scRd.nd rfl (Or.inl rfl)) pgs_nil))))))
      (pss_cons (ps_set (i := 6) scRd.nd rfl (Or.inl rfl) (pe_op op_fdiv (pe_callB call_len_str (by rfl) T.len PySem.boot_len (pa_cons (pv 1) pa_nil)) pe_int))
      (pss_cons (ps_set (i := 7) scRd.nd rfl (Or.inl rfl) (pe_call G22 (hr.mono (by decide)) (by rfl) D22.m D22.F.kp D22.b .nil pass0 (pa_cons (pv 0)
        (pa_cons (pe_slice sl_str (pv 1) po_none (po_some (pv 6))) (pa_cons (pe_slice sl_str (pv 1) (po_some (pe_op op_sub (pe_callB call_len_str (by rfl) T.len PySem.boot_len (pa_cons (pv 1) pa_nil)) (pv 6))) po_none) pa_nil)))))
      (pss_cons (ps_if (pt_cmp (pc_eqI (pe_callB call_len_str (by rfl) T.len PySem.boot_len (pa_cons (pv 1) pa_nil)) (pe_op op_mul pe_int (pv 6)))) (pss_one (ps_ret (pe_ix ix_list (pv 4) (pv 7) (fun _ _ => rfl)))) pss_nil)
      (pss_one (ps_ret (pe_ix ix_list (pe_ix ix_list (pv 5) (pv 7) (fun _ _ => rfl)) (pe_sindex (pv 2) (pe_ix ix_str (pv 1) (pv 6) (fun _ _ => rfl))) (fun _ _ => rfl))))))), ?_⟩
    have hz : x.length ≤ sizeLine := sz_le (by show x.cps.size ≤ _; omega)
    have el : x.cps.toList.length = x.cps.size := Array.length_toList
    refine ⟨_, rfl, a, _, rfl, SqT.of h1, rfl, _, _, rfl, _, _, rfl, _, _, rfl, _, _, rfl, rfl, ?_⟩
    have s02 := Same.refl H
    refine ⟨_, rfl, x, rfl, hz, _, _, rfl, rfl, ⟨by decide, by decide⟩, ?_⟩
    have e2 : ((x.length : Nat) : Int) / 2 = ((x.cps.size / 2 : Nat) : Int) := by show ((x.cps.size : Nat) : Int) / 2 = _; omega
    dsimp only
    rw [e2]
    have e3 : ((x.length : Nat) : Int) - ((x.cps.size / 2 : Nat) : Int) = ((x.cps.size - x.cps.size / 2 : Nat) : Int) := by show ((x.cps.size : Nat) : Int) - _ = _; omega
    have hr3 : (cutS x (some (((x.length : Nat) : Int) - ((x.cps.size / 2 : Nat) : Int))) none).cps.toList = x.cps.toList.drop (x.cps.size - x.cps.size / 2) := by rw [e3]; exact cut_drop _ _
    have hl3 := cut_take x (x.cps.size / 2)
    have szl : (cutS x none (some ((x.cps.size / 2 : Nat) : Int))).cps.size = x.cps.size / 2 := by
      have := congrArg List.length hl3
      simp only [Array.length_toList, List.length_take] at this
      omega
    have szr : (cutS x (some (((x.length : Nat) : Int) - ((x.cps.size / 2 : Nat) : Int))) none).cps.size = x.cps.size / 2 := by
      have := congrArg List.length hr3
      simp only [Array.length_toList, List.length_drop] at this
      omega
    refine ⟨_, rfl, _, rfl, _, rfl, _, rfl, x, rfl, hz, _, rfl, _, rfl, x, rfl, hz, _, rfl, _, _, rfl, rfl, _, rfl, x, rfl, hz, _, M, _, _, rfl, hM.same s02, ok, ?_, ?_, by rw [szl]; exact szr.symm, by rw [szl]; omega, fun H3 s3 => ?_⟩
    · intro c hc
      rw [hl3] at hc
      exact ho c (List.mem_of_mem_take hc)
    · intro c hc
      rw [hr3] at hc
      exact ho c (List.mem_of_mem_drop hc)
    rw [hl3, hr3]
    have s03 := s02.trans s3
    have hq : M.bhd (x.cps.toList.take (x.cps.size / 2)) (x.cps.toList.drop (x.cps.size - x.cps.size / 2)) < M.n :=
      Mach.bhd_lt ok (fun c hc => ho c (List.mem_of_mem_take hc)) (fun c hc => ho c (List.mem_of_mem_drop hc))
    have hk := k
    unfold Mach.has at hk
    simp only [el] at hk
    generalize hqq : M.bhd (x.cps.toList.take (x.cps.size / 2)) (x.cps.toList.drop (x.cps.size - x.cps.size / 2)) = q at hq hk ⊢
    refine ⟨_, rfl, x, rfl, hz, _, rfl, _, _, rfl, rfl, .inl ⟨by decide, by decide⟩, _, _, rfl, rfl, _, rfl, ?_⟩
    refine ite2D (fun hc => ?_) (fun hc => ?_)
    · have hc' : ((x.cps.size : Nat) : Int) = 2 * ((x.cps.size / 2 : Nat) : Int) := hc
      rw [if_pos (by omega)] at hk
      refine ⟨_, rfl, _, rfl, pe, _, _, _, rfl, rfl, SqL.of (s03 _ _ h4), atI_nat (by rw [List.getElem?_map, Mach.fin_at ok hq]; rfl), hk H3 s03⟩
    · have hc' : ¬ ((x.cps.size : Nat) : Int) = 2 * ((x.cps.size / 2 : Nat) : Int) := hc
      rw [if_neg (by omega)] at hk
      have hlt : x.cps.size / 2 < x.cps.toList.length := by rw [el]; omega
      have hcx : x.cps.toList[x.cps.size / 2]? = some (x.cps.toList.getD (x.cps.size / 2) 0) := by
        rw [List.getD_eq_getElem?_getD, List.getElem?_eq_getElem hlt, Option.getD_some]
      have mc : x.cps.toList.getD (x.cps.size / 2) 0 ∈ M.L := ho _ (List.mem_of_getElem? hcx)
      obtain ⟨row, er, ec⟩ := Mach.mid_at ok hq mc
      have er' : (M.mids.map vB)[q]? = some (vB row) := by rw [List.getElem?_map, er]; rfl
      obtain ⟨p, hp, hpl⟩ := h6.at er'
      refine ⟨_, rfl, _, rfl, pq, qs, _, _, rfl, rfl, SqL.of (s03 _ _ h5), atI_nat hp, _, rfl, ⟨_, rfl⟩, _, rfl, _, rfl, x, _, _, rfl, rfl, hz, atI_nat hcx, M.letters, _, rfl, rfl, mc, p, _, _, _, rfl, rfl, SqL.of (s03 _ _ hpl), atI_nat (by rw [List.getElem?_map, show row[M.letters.cps.toList.idxOf (x.cps.toList.getD (x.cps.size / 2) 0)]? = _ from ec]; rfl), hk H3 s03⟩
def spHas : Sp := fun vs H Q _ => ∃ (v : V) (M : Mach) (x : Str), vs = [v, .str x] ∧ MAt H v M ∧ M.Ok ∧ Over M.letters x ∧ x.cps.size ≤ 60 ∧ ∀ H', Same H H' → Q (.bl (M.has x.cps.toList)) H'
theorem sc23 : FnScope ["machine", "word"] ["machine", "word"] (defScope (top 28)) := ⟨rfl, rfl, rfl, by decide +kernel, rfl, by decide +kernel, by decide +kernel⟩
theorem ok_has {f f15 f16 frd : Addr} {fd fd15 fd16 fdrd : FuncData} (D : Def K mg "has" (top 28) ["machine", "word"] f fd) (C : CO mg)
    (D15 : Def K mg "check_machine" (top 20) ["machine"] f15 fd15) (G15 : FnOk P w K mg base CX0 6 f15 fd15 ["machine"] spCheckMachine)
    (D16 : Def K mg "check_word" (top 21) ["letters", "word", "most"] f16 fd16) (G16 : FnOk P w K mg base CX0 2 f16 fd16 ["letters", "word", "most"] spCheckWord)
    (Drd : Def K mg "reads" (top 27) ["machine", "word"] frd fdrd) (Grd : FnOk P w K mg base CX0 3 frd fdrd ["machine", "word"] spReads) :
    FnOk P w K mg base CX0 7 f fd ["machine", "word"] spHas := by
  refine D.F.ok sc23 (fun vs H Q E h => ?_) (fun cdv A outer s H vs Q E hr h => ?_)
  · obtain ⟨v, M, x, rfl, _⟩ := h; rfl
  · obtain ⟨v, M, x, rfl, hM, ok, ho, hl, k⟩ := h
    obtain ⟨a, pm, pe, pq, rs, qs, rfl, h1, h2, h3, h4, h5, h6⟩ := id hM
    obtain ⟨tmw, emw⟩ := C.mw
    refine ⟨_, pss_cons (ps_expr (pe_call G15 hr (by rfl) D15.m D15.F.kp D15.b .nil pass0 (pa_cons (pv 0) pa_nil)))
      (pss_cons (ps_expr (pe_call G16 (hr.mono (by decide)) (by rfl) D16.m D16.F.kp D16.b .nil pass0 (pa_cons (pe_ix ix_tup (pv 0) pe_int (fun _ _ => rfl)) (pa_cons (pv 1) (pa_cons (pe_glob (v := .int 60) (by rfl) emw ⟨_, rfl⟩) pa_nil)))))
      (pss_one (ps_ret (pe_call Grd (hr.mono (by decide)) (by rfl) Drd.m Drd.F.kp Drd.b .nil pass0 (pa_cons (pv 0) (pa_cons (pv 1) pa_nil)))))), ?_⟩
    refine ⟨_, rfl, _, M, rfl, hM, ok, fun H1 s1 => ?_⟩
    refine ⟨_, rfl, a, _, _, _, rfl, rfl, SqT.of (s1 _ _ h1), rfl, _, rfl, M.letters, x, _, rfl, by omega, by omega, ho, fun H2 s2 => ?_⟩
    have s02 := s1.trans s2
    exact ⟨_, rfl, _, rfl, _, M, x, rfl, hM.same s02, ok, ho, by omega, fun H3 s3 => k H3 (s02.trans s3)⟩
end
end Be

namespace L2
open PySem PySem.Spec PyProof.Rows
section
variable {X : Cx}
/-- a statement's ways joined: R holds behind each of them -/
def tJoin (t : TS) : TS := fun D σ H => ∃ R : St → Hp → Prop, t { D with nx := R } σ H ∧ ∀ σ' H', R σ' H' → D.nx σ' H'
theorem ps_join {st : Stmt} {t : TS} (h : PS X st t) : PS X st (tJoin t) := by
  intro pins s σ H D I hq
  obtain ⟨R, hq, hR⟩ := hq
  refine thn (h pins s σ H _ I hq) fun f s1 q => ?_
  cases f with
  | next => obtain ⟨σ', H', I', r⟩ := q; exact ⟨σ', H', I', hR σ' H' r⟩
  | brk => exact q
  | cont => exact q
  | ret u => exact q
/-- written whole numbers, many of them -/
def isIC : Expr → Bool
  | .Constant (.int _) _ _ => true
  | _ => false
def icV : Expr → V
  | .Constant (.int i) _ _ => .int i
  | _ => .non
theorem pa_consts : ∀ {es : List Expr}, es.all isIC = true → PA X es (fun _ H Q => Q (es.map icV) H)
  | [], _ => pa_nil
  | e :: es, h => by
    have h1 : isIC e = true ∧ es.all isIC = true := by simpa using h
    obtain ⟨h1, h2⟩ := h1
    have ih := pa_consts h2
    unfold isIC at h1
    split at h1
    · exact pa_cons pe_int ih
    · cases h1
/-- a, b, c = x, y, z with plain local names -/
def tPar3 (i j k : Nat) (ta : TA) : TS := fun D σ H => ta σ H fun vs H1 => ∃ v w z, vs = [v, w, z] ∧ D.nx (((σ.set i (some v)).set j (some w)).set k (some z)) H1
theorem ps_par3 {i j k : Nat} {x y z : Str} {a b c : Expr} {ta : TA} {px py pz pt : Pos} {kt k2 pt2} {pos : Pos} (hc : X.calm = true) (hN : X.N.Nodup) (hi : X.N[i]? = some x) (hj : X.N[j]? = some y) (hk : X.N[k]? = some z) (hij : i ≠ j) (hik : i ≠ k) (hjk : j ≠ k)
    (hx : X.env.scope.names.lookup x = some .local) (hy : X.env.scope.names.lookup y = some .local) (hz : X.env.scope.names.lookup z = some .local) (ha : PA X [a, b, c] ta)
    (hw : swappedStores [.Tuple [.Name x px, .Name y py, .Name z pz] kt pt] (.Tuple [a, b, c] k2 pt2) X.env = pure (some [x, y, z]))
    (hs : swapsWithSole [.Tuple [.Name x px, .Name y py, .Name z pz] kt pt] (.Tuple [a, b, c] k2 pt2) pos.line X.env = pure false := by rfl) :
    PS X (.Assign [.Tuple [.Name x px, .Name y py, .Name z pz] kt pt] (.Tuple [a, b, c] k2 pt2) pos) (tPar3 i j k ta) := by
  intro pins s σ H D I h
  rw [exec_Assign_arm]
  refine wpAny_bind (wpAny_standAt ?_)
  rw [hs]
  refine wpAny_bind (wpAny_pure ?_)
  rw [if_neg (by decide)]
  refine wpAny_bind (Tuple_ (thn (ha _ pins s σ H _ I h) fun us s1 ⟨vs, H1, I1, r1, q1⟩ => ?_))
  obtain ⟨v, w, z', e1, q1⟩ := q1
  subst e1
  obtain ⟨u1, u2, u3, rfl, rv, rw', rz⟩ : ∃ u1 u2 u3, us = [u1, u2, u3] ∧ RelV v u1 ∧ RelV w u2 ∧ RelV z' u3 := by
    cases r1 with
    | cons p q =>
      cases q with
      | cons p' q' =>
        cases q' with
        | cons p'' q'' =>
          cases q''
          exact ⟨_, _, _, rfl, p, p', p''⟩
  refine wpAny_newObj_type ?_ (by show 3 ≤ sizeLine; decide)
  have I2 : Inv X pins σ H1 { s1 with heap := s1.heap.push { cls := .type "tuple", data := .seq [u1, u2, u3].toArray } } := I1.kept (t' := s1.toks) fun b o e => Heap.get?_push_of_some _ e
  rw [hw]
  refine wpAny_bind (wpAny_pure ?_)
  show wpAny (model X.prog X.w) X.A (do rule "assign.swapped-stores"; let items ← unpackItems (.ref s1.heap.objs.size) 3 none; assignInOrder [fun v => bindName X.env z v, fun v => bindName X.env y v, fun v => bindName X.env x v] items.reverse; pure Flow.next) _ _ _
  refine wpAny_bind (wpAny_rule (wpAny_bind (unpackItems_tuple (items := #[u1, u2, u3]) (I.ok.hd hc) (IsTup.new s1.heap _) fun h' hx' => ?_)))
  have I3 := I2.kept (h' := h') (t' := s1.toks) fun b o e => hx' b o (Nat.ne_of_lt (Heap.lt_size e)) e
  show wpAny _ _ (assignInOrder [fun v => bindName X.env z v, fun v => bindName X.env y v, fun v => bindName X.env x v] [u3, u2, u1] >>= fun _ => pure Flow.next) _ _ _
  refine wpAny_bind (assignInOrder_cons (wpAny_bindName (store_ok I3 hN hk (.inl hz) rz (fun s2 I4 => ?_) (.inr hz))))
  refine assignInOrder_cons (wpAny_bindName (store_ok I4 hN hj (.inl hy) rw' (fun s3 I5 => ?_) (.inr hy)))
  refine assignInOrder_cons (wpAny_bindName (store_ok I5 hN hi (.inl hx) rv (fun s4 I6 => assignInOrder_nil (wpAny_pure ?_)) (.inr hx)))
  have e : ((σ.set k (some z')).set j (some w)).set i (some v) = ((σ.set i (some v)).set j (some w)).set k (some z') := by
    rw [List.set_comm _ _ (Ne.symm hij), List.set_comm _ _ (Ne.symm hik), List.set_comm _ _ (Ne.symm hjk)]
  rw [e] at I6
  exact ⟨_, H1, I6, q1⟩
end
end L2
namespace Be
open PySem L2
section
variable {P : Program} {w : World} {K : PySem.W.Frag} {mg : Str → Option Value} {base : Heap}
/-! ### _law_cell_at -/
def spCell (K : PySem.W.Frag) : Sp := fun vs H Q _ => ∃ (a : Addr) (ns : List Int) (k : Int), vs = [.ref a, .int k] ∧ SqL K H a (ns.map V.int) ∧ 0 ≤ k ∧ ∀ i, Q (.int i) H
theorem sc26 : FnScope ["_law_script", "_law_k"] ["_law_script", "_law_k"] (defScope (top 36)) := ⟨rfl, rfl, rfl, by decide +kernel, rfl, by decide +kernel, by decide +kernel⟩
theorem ok_cell {f : Addr} {fd : FuncData} (D : Def K mg "_law_cell_at" (top 36) ["_law_script", "_law_k"] f fd) (T : BI mg) : FnOk P w K mg base CX0 1 f fd ["_law_script", "_law_k"] (spCell K) := by
  refine D.F.ok sc26 (fun vs H Q E h => ?_) (fun cdv A outer s H vs Q E hr h => ?_)
  · obtain ⟨a, ns, k, rfl, _⟩ := h; rfl
  · obtain ⟨a, ns, k, rfl, hS, h0, kk⟩ := h
    refine ⟨_, pss_cons (ps_if (pt_cmp (pc_lt (pv 1) (pe_callB call_len_seq (by rfl) T.len PySem.boot_len (pa_cons (pv 0) pa_nil)))) (pss_one (ps_ret (pe_ix ix_list (pv 0) (pv 1) (fun _ _ => rfl)))) pss_nil)
      (pss_one (ps_ret pe_int)), ?_⟩
    refine ⟨_, rfl, _, rfl, a, _, rfl, .inl hS, _, _, rfl, rfl, _, rfl, ite2D (fun hc => ?_) (fun hc => ?_)⟩
    · have hlt : k.toNat < ns.length := by rw [List.length_map] at hc; omega
      refine ⟨_, rfl, _, rfl, a, _, _, _, rfl, rfl, hS, at_of (j := k.toNat) (by omega) (by rw [List.getElem?_map, List.getElem?_eq_getElem hlt]; rfl), kk _⟩
    · exact kk 0
/-! ### _law_draw -/
def primes : List Int := [1000003, 1000033, 1000037, 1000039, 1000081, 1000099, 1000117, 1000121, 1000133, 1000151, 1000159, 1000171, 1000183, 1000187, 1000193, 1000199]
def spDraw : Sp := fun vs H Q _ => ∃ (c k m : Int), vs = [.int c, .int k, .int m] ∧ 0 ≤ k ∧ 0 < m ∧ ∀ r H', 0 ≤ r → r < m → Same H H' → Q (.int r) H'
theorem sc27 : FnScope ["_law_cell", "_law_k", "_law_many", "_law_primes"] ["_law_cell", "_law_k", "_law_many"] (defScope (top 37)) := ⟨rfl, rfl, rfl, by decide +kernel, rfl, by decide +kernel, by decide +kernel⟩
theorem ok_draw {f : Addr} {fd : FuncData} (D : Def K mg "_law_draw" (top 37) ["_law_cell", "_law_k", "_law_many"] f fd) : FnOk P w K mg base CX0 1 f fd ["_law_cell", "_law_k", "_law_many"] spDraw := by
  refine D.F.ok sc27 (fun vs H Q E h => ?_) (fun cdv A outer s H vs Q E hr h => ?_)
  · obtain ⟨c, k, m, rfl, _⟩ := h; rfl
  · obtain ⟨c, k, m, rfl, h0, hm, kk⟩ := h
    refine' ⟨_, pss_cons ?s1 ?s2, ?r⟩
    case s1 =>
      refine' ps_set (i := 3) ?n ?h1 ?h2 ?h3
      case n => exact sc27.nd
      case h1 => rfl
      case h2 => exact Or.inl rfl
      case h3 =>
        refine' pe_tup ?c
        case c =>
          refine' @pa_consts _ _ ?z
          rfl
    case s2 => exact pss_one (ps_ret (pe_op op_mod (pe_op op_mod (pe_op op_add (pe_op op_mul (pv 0) pe_int) (pe_op op_mul (pv 1) pe_int)) (pe_ix ix_tup (pv 3) (pe_op op_mod (pv 1) pe_int) (fun _ _ => rfl))) (pv 2)))
    case r =>
      refine ⟨by show 16 ≤ sizeLine; decide, fun p hp => ?_⟩
      have hj : (k % 16).toNat < primes.length := by show (k % 16).toNat < 16; omega
      have hpos : 0 < primes[(k % 16).toNat]'hj := (by decide : ∀ p ∈ primes, 0 < p) _ (List.getElem_mem hj)
      have hat : atI (primes.map V.int) (k % 16) = some (.int (primes[(k % 16).toNat]'hj)) := at_of (j := (k % 16).toNat) (by omega) (by rw [List.getElem?_map, List.getElem?_eq_getElem hj]; rfl)
      generalize primes[(k % 16).toNat]'hj = pr at hpos hat
      refine ⟨_, rfl, _, _, rfl, rfl, .inr ⟨by decide, by decide⟩, ?_⟩
      refine ⟨_, rfl, _, _, rfl, rfl, .inr ⟨by decide, by decide⟩, ?_⟩
      refine ⟨_, _, rfl, rfl, ?_⟩
      refine ⟨_, rfl, ?_⟩
      refine ⟨_, rfl, _, _, rfl, rfl, (by show (0 : Int) < 16; decide), ?_⟩
      refine ⟨p, primes.map V.int, _, .int pr, rfl, rfl, SqT.of upd_same, hat, ?_⟩
      refine ⟨_, _, rfl, rfl, hpos, ?_⟩
      refine ⟨_, rfl, _, _, rfl, rfl, hm, ?_⟩
      exact kk _ _ (Int.emod_nonneg _ (by omega)) (Int.emod_lt_of_pos _ hm) (Same.upd hp)
/-! ### _law_value -/
def spValue : Sp := fun vs H Q _ => ∃ (c t : Int), vs = [.int c, .int t] ∧ 0 ≤ t ∧ t ≤ 100000 ∧ ∀ v H', 0 ≤ v → Same H H' → Q (.int v) H'
theorem sc28 : FnScope ["_law_cell", "_law_turn", "_law_rest", "_law_mixed"] ["_law_cell", "_law_turn"] (defScope (top 38)) := ⟨rfl, rfl, rfl, by decide +kernel, rfl, by decide +kernel, by decide +kernel⟩
theorem ok_value {f f27 : Addr} {fd fd27 : FuncData} (D : Def K mg "_law_value" (top 38) ["_law_cell", "_law_turn"] f fd) (D27 : Def K mg "_law_draw" (top 37) ["_law_cell", "_law_k", "_law_many"] f27 fd27) :
    FnOk P w K mg base CX0 2 f fd ["_law_cell", "_law_turn"] spValue := by
  have G27 : FnOk P w K mg base CX0 1 f27 fd27 ["_law_cell", "_law_k", "_law_many"] spDraw := ok_draw D27
  refine D.F.ok sc28 (fun vs H Q E h => ?_) (fun cdv A outer s H vs Q E hr h => ?_)
  · obtain ⟨c, t, rfl, _⟩ := h; rfl
  · obtain ⟨c, t, rfl, h0, ht, kk⟩ := h
    refine ⟨_, pss_cons (ps_if (pt_cmp (pc_ge (pv 0) (pe_op op_pow pe_int pe_int))) (pss_one (ps_ret (pe_op op_shr (pe_op op_mod (pe_op op_sub (pv 0) (pe_op op_pow pe_int pe_int)) (pe_op op_pow pe_int pe_int)) (pe_op op_mul pe_int (pv 1))))) pss_nil)
      (pss_cons (ps_set (i := 2) sc28.nd rfl (Or.inl rfl) (pe_op op_mod (pv 0) (pe_op op_pow pe_int pe_int)))
      (pss_cons (ps_set (i := 3) sc28.nd rfl (Or.inl rfl) (pe_call G27 hr (by rfl) D27.m D27.F.kp D27.b .nil pass0 (pa_cons (pe_op op_mul (pe_op op_add (pv 2) (pe_op op_mul pe_int (pv 1))) (pe_op op_add (pe_op op_add (pv 2) (pe_op op_mul pe_int (pv 1))) pe_int))
        (pa_cons (pe_op op_add (pe_op op_mod (pv 1) pe_int) pe_int) (pa_cons pe_int pa_nil)))))
      (pss_one (ps_ret (pe_op op_add (pe_op op_mul (pv 3) pe_int) (pe_call G27 hr (by rfl) D27.m D27.F.kp D27.b .nil pass0 (pa_cons (pe_op op_add (pe_op op_mul (pe_op op_add (pv 2) (pe_op op_mul pe_int (pv 1))) (pe_op op_add (pv 2) pe_int)) (pe_op op_mul pe_int (pv 1)))
        (pa_cons (pe_op op_add (pe_op op_mod (pv 1) pe_int) pe_int) (pa_cons pe_int pa_nil))))))))), ?_⟩
    have e18 : (10 : Int) ^ (18 : Int).toNat = 1000000000000000000 := by decide
    refine ⟨_, rfl, _, _, rfl, rfl, ⟨by decide, by decide, by decide⟩, _, _, rfl, rfl, _, rfl, ite2D (fun hc => ?_) (fun hc => ?_)⟩
    · refine ⟨_, rfl, _, _, rfl, rfl, ⟨by decide, by decide, by decide⟩, _, _, rfl, rfl, _, _, rfl, rfl, ⟨by decide, by decide, by decide⟩, _, _, rfl, rfl, (by show (0 : Int) < 10 ^ Int.toNat 40; decide), _, rfl, _, _, rfl, rfl, .inl ⟨by decide, by decide⟩, _, _, rfl, rfl, (by show (0 : Int) ≤ 3 * t; omega), ?_⟩
      refine kk _ _ (Int.ediv_nonneg (Int.emod_nonneg _ (by decide)) ?_) (Same.refl _)
      exact Int.le_of_lt (Int.pow_pos (by decide))
    · refine ⟨_, rfl, _, _, rfl, rfl, ⟨by decide, by decide, by decide⟩, _, _, rfl, rfl, (by show (0 : Int) < 10 ^ Int.toNat 18; decide), ?_⟩
      dsimp only
      rw [e18]
      have r0 : 0 ≤ c % 1000000000000000000 := Int.emod_nonneg _ (by decide)
      have r1 : c % 1000000000000000000 < 1000000000000000000 := Int.emod_lt_of_pos _ (by decide)
      generalize c % 1000000000000000000 = r at r0 r1 ⊢
      have c1 : -(2 ^ 64) < r + 977 * t ∧ r + 977 * t < 2 ^ 64 := by omega
      have c2 : -(2 ^ 64) < r + 31 * t ∧ r + 31 * t < 2 ^ 64 := by omega
      refine ⟨_, rfl, _, rfl, _, _, rfl, rfl, .inl ⟨by decide, by decide⟩, _, _, rfl, rfl, _, rfl, _, rfl, _, _, rfl, rfl, .inl ⟨by decide, by decide⟩, _, _, rfl, rfl, _, _, rfl, rfl, _, _, rfl, rfl, .inl c1,
        _, rfl, _, _, rfl, rfl, (by show (0 : Int) < 9; decide), _, _, rfl, rfl, _, _, _, rfl, (by show 0 ≤ t % 9 + 1; omega), (by decide), fun m H1 m0 m1 s1 => ?_⟩
      refine ⟨_, rfl, _, _, rfl, rfl, .inr ⟨by decide, by decide⟩, _, rfl, _, rfl, _, _, rfl, rfl, .inl ⟨by decide, by decide⟩, _, _, rfl, rfl, _, rfl, _, _, rfl, rfl, _, _, rfl, rfl, .inl c2, _, rfl, _, _, rfl, rfl, .inl ⟨by decide, by decide⟩, _, _, rfl, rfl,
        _, rfl, _, _, rfl, rfl, (by show (0 : Int) < 7; decide), _, _, rfl, rfl, _, _, _, rfl, (by show 0 ≤ t % 7 + 2; omega), (by decide), fun m' H2 m0' m1' s2 => ?_⟩
      refine ⟨_, _, rfl, rfl, kk _ _ ?_ (s1.trans s2)⟩
      show 0 ≤ m * 1000003 + m'
      omega
/-! ### _law_whole, _law_says -/
end
end Be

namespace Be
open PySem L2
/-! ### a heap without some places -/
def msk (H : Hp) (S : List Addr) : Hp := fun b => if b ∈ S then none else H b
theorem msk_at {H : Hp} {S : List Addr} {b : Addr} (h : b ∉ S) : msk H S b = H b := by unfold msk; rw [if_neg h]
theorem msk_le {H : Hp} {S : List Addr} : Same (msk H S) H := fun b o e => by
  unfold msk at e
  split at e
  · cases e
  · exact e
theorem msk_same {H H' : Hp} {S : List Addr} (s : Same H H') : Same (msk H S) (msk H' S) := fun b o e => by
  unfold msk at e ⊢
  split at e
  · cases e
  · rename_i h; rw [if_neg h]; exact s b o e
theorem msk_upd {H : Hp} {S : List Addr} {a : Addr} {o : HO} (h : a ∈ S) : msk (upd H a o) S = msk H S := by
  funext b
  unfold msk
  split
  · rfl
  · rename_i hb
    have : b ≠ a := fun e => hb (e ▸ h)
    rw [upd_ne this]
theorem msk_free {H : Hp} {S : List Addr} (hS : ∀ a ∈ S, H a = none) : Same H (msk H S) := fun b o e => by
  rw [msk_at (fun hb => by rw [hS b hb] at e; cases e)]; exact e
theorem RowsM.snoc {H : Hp} {S : List Addr} {rs : List V} {xss : List (List V)} {l : Addr} {xs : List V} (h : Rows (msk H S) rs xss) (hS : l ∉ S) (hl : H l = some (.lst xs)) : Rows (msk H S) (rs ++ [.ref l]) (xss ++ [xs]) :=
  Rows.snoc h (by rw [msk_at hS]; exact hl)
/-! ### letters, by looking -/
def rising : List Nat → Bool
  | a :: b :: r => decide (a < b) && rising (b :: r)
  | _ => true
theorem rising_up : ∀ {l : List Nat} {i c d : Nat}, rising l = true → l[i]? = some c → l[i + 1]? = some d → c < d
  | [], _, _, _, _, h, _ => by simp at h
  | [_], 0, _, _, _, _, h => by simp at h
  | [_], i + 1, _, _, _, h, _ => by simp at h
  | a :: b :: r, 0, c, d, h, h1, h2 => by
    simp at h1 h2
    simp [rising] at h
    omega
  | a :: b :: r, i + 1, c, d, h, h1, h2 => by
    simp [rising] at h
    exact rising_up (l := b :: r) (i := i) h.2 (by simpa using h1) (by simpa using h2)
def letB (l : List Nat) : Bool := decide (1 ≤ l.length) && decide (l.length ≤ 3) && l.all (fun c => decide (97 ≤ c)) && l.all (fun c => decide (c ≤ 122)) && rising l
theorem letOk_of {x : Str} (h : letB x.cps.toList = true) : LetOk x := by
  unfold letB at h
  simp only [Bool.and_eq_true, decide_eq_true_eq, List.all_eq_true] at h
  obtain ⟨⟨⟨⟨h1, h2⟩, h3⟩, h4⟩, h5⟩ := h
  refine ⟨by simpa using h1, by simpa using h2, h3, h4, fun i c d e1 e2 => ?_⟩
  rw [← Array.getElem?_toList] at e1 e2
  exact rising_up h5 e1 e2
section
variable {P : Program} {w : World} {K : PySem.W.Frag} {mg : Str → Option Value} {base : Heap}
/-! ### _law_letters -/
def spLetters (K : PySem.W.Frag) : Sp := fun vs H Q _ => ∃ (a : Addr) (ns : List Int), vs = [.ref a] ∧ SqL K H a (ns.map V.int) ∧ ∀ L H', LetOk L → Same H H' → Q (.str L) H'
theorem sc32 : FnScope ["_law_script"] ["_law_script"] (defScope (top 40)) := ⟨rfl, rfl, rfl, by decide +kernel, rfl, by decide +kernel, by decide +kernel⟩
def five : List Str := ["ab", "ab", "a", "abc", "xz"]
theorem ok_letters {f f26 f28 : Addr} {fd fd26 fd28 : FuncData} (D : Def K mg "_law_letters" (top 40) ["_law_script"] f fd)
    (D26 : Def K mg "_law_cell_at" (top 36) ["_law_script", "_law_k"] f26 fd26) (G26 : FnOk P w K mg base CX0 1 f26 fd26 ["_law_script", "_law_k"] (spCell K))
    (D28 : Def K mg "_law_value" (top 38) ["_law_cell", "_law_turn"] f28 fd28) (G28 : FnOk P w K mg base CX0 2 f28 fd28 ["_law_cell", "_law_turn"] spValue) :
    FnOk P w K mg base CX0 3 f fd ["_law_script"] (spLetters K) := by
  refine D.F.ok sc32 (fun vs H Q E h => ?_) (fun cdv A outer s H vs Q E hr h => ?_)
  · obtain ⟨a, ns, rfl, _⟩ := h; rfl
  · obtain ⟨a, ns, rfl, hS, kk⟩ := h
    refine ⟨_, pss_one (ps_ret (pe_ix ix_tup (pe_tup (pa_cons pe_str (pa_cons pe_str (pa_cons pe_str (pa_cons pe_str (pa_cons pe_str pa_nil))))))
      (pe_op op_mod (pe_call G28 hr (by rfl) D28.m D28.F.kp D28.b .nil pass0 (pa_cons (pe_call G26 (hr.mono (by decide)) (by rfl) D26.m D26.F.kp D26.b .nil pass0 (pa_cons (pv 0) (pa_cons pe_int pa_nil))) (pa_cons pe_int pa_nil))) pe_int) (fun _ _ => rfl))), ?_⟩
    refine ⟨by show 5 ≤ sizeLine; decide, fun p hp => ?_⟩
    have s1 : Same H (upd H p (.tup (five.map V.str))) := Same.upd hp
    refine ⟨_, rfl, a, ns, _, rfl, s1.seq hS, by decide, fun c => ?_⟩
    refine ⟨c, _, rfl, by decide, by decide, fun v H2 v0 s2 => ?_⟩
    refine ⟨_, _, rfl, rfl, (by show (0 : Int) < 5; decide), ?_⟩
    have hj : (v % 5).toNat < five.length := by show (v % 5).toNat < 5; omega
    have hL : LetOk (five[(v % 5).toNat]'hj) := letOk_of ((by decide +kernel : ∀ x ∈ five, letB x.cps.toList = true) _ (List.getElem_mem hj))
    refine ⟨p, five.map V.str, _, _, rfl, rfl, SqT.of (s2 _ _ upd_same), at_of (j := (v % 5).toNat) (v := .str (five[(v % 5).toNat]'hj)) (by omega) (by rw [List.getElem?_map, List.getElem?_eq_getElem hj]; rfl), ?_⟩
    exact kk _ _ hL (s1.trans s2)
/-! ### _law_copy -/
def spCopy : Sp := fun vs H Q _ => ∃ (v : V) (M : Mach), vs = [v] ∧ MAt H v M ∧ M.moves.length ≤ 10000 ∧ M.mids.length ≤ 10000 ∧ ∀ v' H', Same H H' → MAt H' v' M → Q v' H'
theorem sc33 : FnScope ["_law_machine_here", "_law_row"] ["_law_machine_here"] (defScope (top 41)) := ⟨rfl, rfl, rfl, by decide +kernel, rfl, by decide +kernel, by decide +kernel⟩
/-- rows copied so far -/
abbrev Cop (H : Hp) (D : Addr) (xss : List (List V)) (i : Nat) (H' : Hp) : Prop := Same H H' ∧ ∃ rs, H' D = some (.lst rs) ∧ Rows (msk H' [D]) rs (xss.take i)
theorem Cop.next {H H1 : Hp} {D : Addr} {xss : List (List V)} {i : Nat} {xs : List V} {l : Addr} (hD : H D = none) (h : Cop H D xss i H1) (hx : xss[i]? = some xs) (hl : H1 l = none) (hi : i ≤ 10000) :
    ∃ acc, (upd H1 l (.lst xs)) D = some (.lst acc) ∧ acc.length < sizeLine ∧ Cop H D xss (i + 1) (upd (upd H1 l (.lst xs)) D (.lst (acc ++ [.ref l]))) := by
  obtain ⟨s, rs, h1, h2⟩ := h
  have ne : D ≠ l := ne_of_none h1 hl
  have hlt : i < xss.length := (List.getElem?_eq_some_iff.mp hx).1
  have hrl : rs.length = i := by rw [h2.len, List.length_take]; omega
  refine ⟨rs, by rw [upd_ne ne]; exact h1, by rw [hrl]; exact sz_lt (by omega), Same.put (s.trans (Same.upd hl)) hD, rs ++ [.ref l], upd_same, ?_⟩
  rw [msk_upd (List.mem_singleton.mpr rfl), List.take_succ_eq_append_getElem hlt, (List.getElem?_eq_some_iff.mp hx).2]
  exact RowsM.snoc (h2.same (msk_same (Same.upd hl))) (fun q => ne (List.mem_singleton.mp q).symm) upd_same
theorem ok_copy {f : Addr} {fd : FuncData} (D : Def K mg "_law_copy" (top 41) ["_law_machine_here"] f fd) (T : BI mg) : FnOk P w K mg base CX0 1 f fd ["_law_machine_here"] spCopy := by
  refine D.F.ok sc33 (fun vs H Q E h => ?_) (fun cdv A outer s H vs Q E hr h => ?_)
  · obtain ⟨v, M, rfl, _⟩ := h; rfl
  · obtain ⟨v, M, rfl, ⟨a, pm, pe, pq, rs, qs, rfl, h1, h2, h3, h4, h5, h6⟩, hm1, hm2, k⟩ := h
    refine ⟨_, pss_one (ps_ret (pe_tup (pa_cons (pe_ix ix_tup (pv 0) pe_int (fun _ _ => rfl))
      (pa_cons (pe_lc (own := [("_law_row", 1)]) (g := gName 1) (by rfl) sc33.nd (pi_list (pe_ix ix_tup (pv 0) pe_int (fun _ _ => rfl)))
          (blkOk_by (own := [("_law_row", 1)]) (N := ["_law_machine_here", "_law_row"]) (sc := defScope (top 41)) (by decide +kernel))
          (fun _ _ _ _ _ => pg_name (i := 1) sc33.nd rfl (Or.inl rfl)) (fun _ _ _ _ _ => pts_nil)
          (fun _ _ _ _ _ => pe_callTy (call_listK K) (by rfl) T.list (by decide +kernel) (pa_cons (pv 1) pa_nil)))
      (pa_cons (pe_callTy (call_listK K) (by rfl) T.list (by decide +kernel) (pa_cons (pe_ix ix_tup (pv 0) pe_int (fun _ _ => rfl)) pa_nil))
      (pa_cons (pe_lc (own := [("_law_row", 1)]) (g := gName 1) (by rfl) sc33.nd (pi_list (pe_ix ix_tup (pv 0) pe_int (fun _ _ => rfl)))
          (blkOk_by (own := [("_law_row", 1)]) (N := ["_law_machine_here", "_law_row"]) (sc := defScope (top 41)) (by decide +kernel))
          (fun _ _ _ _ _ => pg_name (i := 1) sc33.nd rfl (Or.inl rfl)) (fun _ _ _ _ _ => pts_nil)
          (fun _ _ _ _ _ => pe_callTy (call_listK K) (by rfl) T.list (by decide +kernel) (pa_cons (pv 1) pa_nil))) pa_nil)))))), ?_⟩
    have hl3 : rs.length = M.moves.length := by rw [h3.len, List.length_map]
    have hl6 : qs.length = M.mids.length := by rw [h6.len, List.length_map]
    refine ⟨_, rfl, a, _, _, _, rfl, rfl, SqT.of h1, rfl, ?_⟩
    refine ⟨_, rfl, a, _, _, _, rfl, rfl, SqT.of h1, rfl, pm, rfl, ⟨_, SqL.of h2⟩, fun D1 hD1 => lc_list (K := K) (a := pm) (xs := rs) (fun i H' => Cop H D1 (M.moves.map vI) i H')
      ⟨Same.upd hD1, [], upd_same, .nil⟩ (fun i H' _ h => SqL.of (h.1 _ _ h2)) ?_ ?_⟩
    · rintro i v H1 hv h1'
      have hi : i < rs.length := (List.getElem?_eq_some_iff.mp hv).1
      obtain ⟨q, xs, rfl, hx, hq⟩ := h3.to hv
      refine ⟨rfl, yesT ?_⟩
      exact ⟨_, rfl, q, xs, rfl, .inl (SqL.of (h1'.1 _ _ hq)), fun l hl => Cop.next hD1 h1' hx hl (by omega)⟩
    rintro H1 ⟨s1, rs1, e1, R1⟩
    rw [List.take_of_length_le (by rw [List.length_map]; omega)] at R1
    have R1' := R1.same msk_le
    refine ⟨_, rfl, a, _, _, _, rfl, rfl, SqT.of (s1 _ _ h1), rfl, pe, _, rfl, .inl (SqL.of (s1 _ _ h4)), fun l2 hl2 => ?_⟩
    have s2 : Same H1 (upd H1 l2 (.lst (vB M.ends))) := Same.upd hl2
    have s02 := s1.trans s2
    refine ⟨_, rfl, a, _, _, _, rfl, rfl, SqT.of (s02 _ _ h1), rfl, pq, rfl, ⟨_, SqL.of (s02 _ _ h5)⟩, fun D3 hD3 => lc_list (K := K) (a := pq) (xs := qs) (fun i H' => Cop (upd H1 l2 (.lst (vB M.ends))) D3 (M.mids.map vB) i H')
      ⟨Same.upd hD3, [], upd_same, .nil⟩ (fun i H' _ h => SqL.of (h.1 _ _ (s02 _ _ h5))) ?_ ?_⟩
    · rintro i v H3 hv h1'
      have hi : i < qs.length := (List.getElem?_eq_some_iff.mp hv).1
      obtain ⟨q, xs, rfl, hx, hq⟩ := h6.to hv
      refine ⟨rfl, yesT ?_⟩
      exact ⟨_, rfl, q, xs, rfl, .inl (SqL.of (h1'.1 _ _ (s02 _ _ hq))), fun l hl => Cop.next hD3 h1' hx hl (by omega)⟩
    rintro H3 ⟨s3, rs3, e3, R3⟩
    rw [List.take_of_length_le (by rw [List.length_map]; omega)] at R3
    have R3' := R3.same msk_le
    have s03 := s02.trans s3
    refine ⟨by show 4 ≤ sizeLine; decide, fun p hp => ?_⟩
    have s4 : Same H3 (upd H3 p (.tup [.str M.letters, .ref D1, .ref l2, .ref D3])) := Same.upd hp
    refine k _ _ (s03.trans s4) ⟨p, D1, l2, D3, rs1, rs3, rfl, upd_same, s4 _ _ (s3 _ _ (s2 _ _ e1)), R1'.same (s2.trans (s3.trans s4)), s4 _ _ (s3 _ _ upd_same), s4 _ _ e3, R3'.same s4⟩
end
end Be

namespace Be
open PySem L2
/-- a number in range, as a natural one -/
theorem nat_mod (z : Int) {n : Nat} (h : 0 < n) : ∃ g : Nat, z % (n : Int) = (g : Int) ∧ g < n := by
  have h1 : 0 ≤ z % (n : Int) := Int.emod_nonneg _ (by omega)
  have h2 : z % (n : Int) < (n : Int) := Int.emod_lt_of_pos _ (by omega)
  exact ⟨(z % (n : Int)).toNat, by omega, by omega⟩
theorem pick3 {x y z kd : Int} (h0 : 0 ≤ kd) (h3 : kd < 3) (hx : 0 < x) (hy : 0 < y) (hz : 0 < z) : ∃ t : Int, atI [V.int x, V.int y, V.int z] kd = some (.int t) ∧ 0 < t := by
  have h : kd = 0 ∨ kd = 1 ∨ kd = 2 := by omega
  rcases h with rfl | rfl | rfl
  · exact ⟨x, rfl, hx⟩
  · exact ⟨y, rfl, hy⟩
  · exact ⟨z, rfl, hz⟩
/-- a row under way: numbers below n -/
abbrev RowW (H : Hp) (D : Addr) (n i : Nat) (H' : Hp) : Prop := Same H H' ∧ ∃ r : List Nat, H' D = some (.lst (vI r)) ∧ r.length = i ∧ ∀ g ∈ r, g < n
theorem RowW.next {H H1 : Hp} {D : Addr} {n i : Nat} {g : Nat} (hD : H D = none) (h : RowW H D n i H1) (hg : g < n) (hi : i ≤ 10000) :
    ∃ acc, H1 D = some (.lst acc) ∧ acc.length < sizeLine ∧ RowW H D n (i + 1) (upd H1 D (.lst (acc ++ [.int (g : Int)]))) := by
  obtain ⟨s, r, h1, h2, h3⟩ := h
  refine ⟨vI r, h1, by rw [List.length_map, h2]; exact sz_lt (by omega), Same.put s hD, r ++ [g], ?_, by simp [h2], ?_⟩
  · rw [upd_same]; simp [vI]
  · intro g' hg'
    rcases List.mem_append.mp hg' with q | q
    · exact h3 _ q
    · rw [List.mem_singleton.mp q]; exact hg
abbrev RowB (H : Hp) (D : Addr) (i : Nat) (H' : Hp) : Prop := Same H H' ∧ ∃ r : List Bool, H' D = some (.lst (vB r)) ∧ r.length = i
theorem RowB.next {H H1 : Hp} {D : Addr} {i : Nat} {b : Bool} (hD : H D = none) (h : RowB H D i H1) (hi : i ≤ 10000) :
    ∃ acc, H1 D = some (.lst acc) ∧ acc.length < sizeLine ∧ RowB H D (i + 1) (upd H1 D (.lst (acc ++ [.bl b]))) := by
  obtain ⟨s, r, h1, h2⟩ := h
  refine ⟨vB r, h1, by rw [List.length_map, h2]; exact sz_lt (by omega), Same.put s hD, r ++ [b], ?_, by simp [h2]⟩
  rw [upd_same]; simp [vB]
/-- the machine under way: i states done -/
def Bld (H : Hp) (pm pe pq : Addr) (k n i : Nat) (H' : Hp) : Prop :=
  ∃ (mv : List (List Nat)) (es : List Bool) (md : List (List Bool)) (rs qs : List V), Same H (msk H' [pm, pe, pq]) ∧ H' pm = some (.lst rs) ∧ H' pe = some (.lst (vB es)) ∧ H' pq = some (.lst qs) ∧
    Rows (msk H' [pm, pe, pq]) rs (mv.map vI) ∧ Rows (msk H' [pm, pe, pq]) qs (md.map vB) ∧ mv.length = i ∧ es.length = i ∧ md.length = i ∧ (∀ r ∈ mv, r.length = k * k ∧ ∀ g ∈ r, g < n) ∧ ∀ r ∈ md, r.length = k
section
variable {P : Program} {w : World} {K : PySem.W.Frag} {mg : Str → Option Value} {base : Heap}
def spMachine (K : PySem.W.Frag) : Sp := fun vs H Q _ => ∃ (a : Addr) (ns : List Int) (by_ : Int) (L : Str) (m : Int), vs = [.ref a, .int by_, .str L, .int m] ∧ SqL K H a (ns.map V.int) ∧ 0 ≤ by_ ∧ LetOk L ∧ 1 ≤ m ∧ m ≤ 40 ∧
  ∀ (M : Mach) (v : V) (H' : Hp), M.Ok → M.letters = L → (M.n : Int) ≤ m → Same H H' → MAt H' v M → Q v H'
abbrev NM : List Str := ["_law_script", "_law_by", "_law_letters_here", "_law_most", "_law_cell", "_law_states", "_law_many", "_law_kind", "_law_moves", "_law_ends", "_law_middles", "_law_state", "_law_number", "_law_row", "_law_spot", "_law_there", "_law_one"]
theorem sc31 : FnScope NM ["_law_script", "_law_by", "_law_letters_here", "_law_most"] (defScope (top 39)) := ⟨rfl, rfl, rfl, by decide +kernel, rfl, by decide +kernel, by decide +kernel⟩
set_option maxHeartbeats 2000000 in
theorem ok_machine {f f26 f28 : Addr} {fd fd26 fd28 : FuncData} (D : Def K mg "_law_machine" (top 39) ["_law_script", "_law_by", "_law_letters_here", "_law_most"] f fd) (T : BI mg)
    (D26 : Def K mg "_law_cell_at" (top 36) ["_law_script", "_law_k"] f26 fd26) (G26 : FnOk P w K mg base CX0 1 f26 fd26 ["_law_script", "_law_k"] (spCell K))
    (D28 : Def K mg "_law_value" (top 38) ["_law_cell", "_law_turn"] f28 fd28) (G28 : FnOk P w K mg base CX0 2 f28 fd28 ["_law_cell", "_law_turn"] spValue) :
    FnOk P w K mg base CX0 3 f fd ["_law_script", "_law_by", "_law_letters_here", "_law_most"] (spMachine K) := by
  refine D.F.ok sc31 (fun vs H Q E h => ?_) (fun cdv A outer s H vs Q E hr h => ?_)
  · obtain ⟨a, ns, by_, L, m, rfl, _⟩ := h; rfl
  · obtain ⟨a, ns, by_, L, m, rfl, hS, hby, hL, hm1, hm40, kk⟩ := h
    have hr1 : Room 1 _ := hr.mono (by decide)
    refine ⟨_, pss_cons (ps_set (i := 4) sc31.nd rfl (Or.inl rfl) (pe_call G26 hr1 (by rfl) D26.m D26.F.kp D26.b .nil pass0 (pa_cons (pv 0) (pa_cons (pv 1) pa_nil))))
      (pss_cons (ps_asg (pe_tup (pa_cons (pe_op op_add pe_int (pe_op op_mod (pe_call G28 hr (by rfl) D28.m D28.F.kp D28.b .nil pass0 (pa_cons (pv 4) (pa_cons pe_int pa_nil))) (pv 3)))
          (pa_cons (pe_callB call_len_str (by rfl) T.len PySem.boot_len (pa_cons (pv 2) pa_nil)) (pa_cons (pe_op op_mod (pe_call G28 hr (by rfl) D28.m D28.F.kp D28.b .nil pass0 (pa_cons (pv 4) (pa_cons pe_int pa_nil))) pe_int) pa_nil))))
        (pg_tup (by rfl) (pgs_cons (pg_name (i := 5) sc31.nd rfl (Or.inr rfl)) (pgs_cons (pg_name (i := 6) sc31.nd rfl (Or.inr rfl)) (pgs_cons (pg_name (i := 7) sc31.nd rfl (Or.inr rfl)) pgs_nil)))))
      (pss_cons (ps_par3 (by rfl) sc31.nd (i := 8) (j := 9) (k := 10) rfl rfl rfl (by decide) (by decide) (by decide) rfl rfl rfl (pa_cons (pe_lst pa_nil) (pa_cons (pe_lst pa_nil) (pa_cons (pe_lst pa_nil) pa_nil))) (by rfl))
      (pss_cons (ps_for PassesOwn.never rfl (pi_range1 (by rfl) T.range (pa_cons (pv 5) pa_nil)) (pg_name (i := 11) sc31.nd rfl (Or.inr rfl))
        (pss_cons (ps_set (i := 12) sc31.nd rfl (Or.inr rfl) (pe_call G28 hr (by rfl) D28.m D28.F.kp D28.b .nil pass0
          (pa_cons (pe_op op_add (pe_call G26 hr1 (by rfl) D26.m D26.F.kp D26.b .nil pass0 (pa_cons (pv 0) (pa_cons (pe_op op_add (pv 1) (pe_op op_mod (pv 11) pe_int)) pa_nil))) (pe_op op_mul pe_int (pv 11)))
          (pa_cons (pe_op op_add pe_int (pe_op op_mod (pv 11) pe_int)) pa_nil))))
        (pss_cons (ps_setLc (i := 13) (own := [("_law_spot", 14)]) (g := gName 14) (by rfl) sc31.nd rfl rfl (sw_true rfl rfl rfl (by decide +kernel)) (pi_range1 (by rfl) T.range (pa_cons (pe_op op_mul (pv 6) (pv 6)) pa_nil))
          (blkOk_by (own := [("_law_spot", 14)]) (N := NM) (sc := defScope (top 39)) (by decide +kernel)) (fun _ _ _ _ _ => pg_name (i := 14) sc31.nd rfl (Or.inl rfl)) (fun _ _ _ _ _ => pts_nil)
          (fun _ _ _ _ _ => pe_op op_mod (pe_op op_fdiv (pe_call G28 hr (by rfl) D28.m D28.F.kp D28.b .nil pass0 (pa_cons (pe_op op_add (pv 12) (pe_op op_mul pe_int (pv 14))) (pa_cons (pe_op op_add pe_int (pv 14)) pa_nil))) pe_int) (pv 5)))
        (pss_cons (ps_join (ps_if (pt_cmp (pc_eqI (pv 7) pe_int))
          (pss_one (ps_setLc (i := 13) (own := [("_law_spot", 14), ("_law_there", 15)]) (g := gTup K 2 (gCons (gName 14) (gCons (gName 15) gNil))) (by rfl) sc31.nd rfl rfl (sw_true rfl rfl rfl (by decide +kernel)) (pi_enum (by rfl) T.enumerate (pa_cons (pv 13) pa_nil))
            (blkOk_by (own := [("_law_spot", 14), ("_law_there", 15)]) (N := NM) (sc := defScope (top 39)) (by decide +kernel))
            (fun _ _ _ _ _ => pg_tup rfl (pgs_cons (pg_name (i := 14) sc31.nd rfl (Or.inl rfl)) (pgs_cons (pg_name (i := 15) sc31.nd rfl (Or.inl rfl)) pgs_nil))) (fun _ _ _ _ _ => pts_nil)
            (fun _ _ _ _ _ => pe_ifExp (pt_cmp (pc_eqI (pe_op op_mod (pv 14) (pe_op op_add (pv 6) pe_int)) pe_int)) (pe_op op_mod (pe_op op_add (pv 11) pe_int) (pv 5)) (pv 15)))) pss_nil))
        (pss_cons (ps_expr (pe_bm PySem.F.plainAttrs_list PySem.F.slot_list_append PySem.F.type_list_append mt_append (pv 8) (pa_cons (pv 13) pa_nil)))
        (pss_cons (ps_expr (pe_bm PySem.F.plainAttrs_list PySem.F.slot_list_append PySem.F.type_list_append mt_append (pv 9) (pa_cons (pe_cmp (pc_eqI (pe_op op_mod (pe_call G28 hr (by rfl) D28.m D28.F.kp D28.b .nil pass0 (pa_cons (pv 12) (pa_cons pe_int pa_nil)))
          (pe_ix ix_tup (pe_tup (pa_cons pe_int (pa_cons pe_int (pa_cons pe_int pa_nil)))) (pv 7) (fun _ _ => rfl))) pe_int) rfl) pa_nil)))
        (pss_one (ps_expr (pe_bm PySem.F.plainAttrs_list PySem.F.slot_list_append PySem.F.type_list_append mt_append (pv 10) (pa_cons
          (pe_lc (own := [("_law_one", 16)]) (g := gName 16) (by rfl) sc31.nd (pi_range1 (by rfl) T.range (pa_cons (pv 6) pa_nil))
            (blkOk_by (own := [("_law_one", 16)]) (N := NM) (sc := defScope (top 39)) (by decide +kernel)) (fun _ _ _ _ _ => pg_name (i := 16) sc31.nd rfl (Or.inl rfl)) (fun _ _ _ _ _ => pts_nil)
            (fun _ _ _ _ _ => pe_cmp (pc_eqI (pe_op op_mod (pe_call G28 hr (by rfl) D28.m D28.F.kp D28.b .nil pass0 (pa_cons (pe_op op_add (pv 12) (pv 16)) (pa_cons pe_int pa_nil)))
              (pe_ix (ix_tupK K) (pe_tup (pa_cons pe_int (pa_cons pe_int (pa_cons pe_int pa_nil)))) (pv 7) (fun _ _ => rfl))) pe_int) rfl)) pa_nil))))))))))
      (pss_one (ps_ret (pe_tup (pa_cons (pv 2) (pa_cons (pv 8) (pa_cons (pv 9) (pa_cons (pv 10) pa_nil)))))))))), ?_⟩
    -- cell
    refine ⟨_, rfl, _, rfl, a, ns, by_, rfl, hS, hby, fun c => ?_⟩
    -- states, many, kind
    have hz : L.length ≤ sizeLine := sz_le (by have := hL.k3; show L.cps.size ≤ _; omega)
    have k1 := hL.k1
    have k3 := hL.k3
    refine ⟨_, rfl, c, 1, rfl, by decide, by decide, fun v1 H1 v10 s1 => ?_⟩
    refine ⟨_, rfl, _, _, rfl, rfl, (by show 0 < m; omega), _, _, rfl, rfl, ?_⟩
    obtain ⟨n, hn, hn1, hnm⟩ : ∃ n : Nat, 1 + v1 % m = (n : Int) ∧ 1 ≤ n ∧ (n : Int) ≤ m := by
      have h1 : 0 ≤ v1 % m := Int.emod_nonneg _ (by omega)
      have h2 : v1 % m < m := Int.emod_lt_of_pos _ (by omega)
      exact ⟨(1 + v1 % m).toNat, by omega, by omega, by omega⟩
    dsimp only
    rw [hn]
    refine ⟨_, rfl, L, rfl, hz, ?_⟩
    refine ⟨_, rfl, c, 2, rfl, by decide, by decide, fun v2 H2 v20 s2 => ?_⟩
    refine ⟨_, _, rfl, rfl, (by show (0 : Int) < 3; decide), ?_⟩
    have kd0 : 0 ≤ v2 % 3 := Int.emod_nonneg _ (by decide)
    have kd3 : v2 % 3 < 3 := Int.emod_lt_of_pos _ (by decide)
    dsimp only
    generalize v2 % 3 = kd at kd0 kd3 ⊢
    refine ⟨by show 3 ≤ sizeLine; decide, fun p hp => ?_⟩
    refine ⟨p, _, rfl, SqT.of upd_same, rfl, _, _, rfl, _, _, rfl, _, _, rfl, rfl, ?_⟩
    -- moves, ends, middles
    have sb : Same H (upd H2 p (.tup [.int (n : Int), .int (L.length : Int), .int kd])) := (s1.trans s2).trans (Same.upd hp)
    generalize hHb : upd H2 p (.tup [.int (n : Int), .int (L.length : Int), .int kd]) = Hb at sb
    refine ⟨by show 0 ≤ sizeLine; decide, fun pm hpm => ⟨by show 0 ≤ sizeLine; decide, fun pe hpe => ⟨by show 0 ≤ sizeLine; decide, fun pq hpq => ⟨_, _, _, rfl, ?_⟩⟩⟩⟩
    have npe : pe ≠ pm := (ne_of_none (upd_same : (upd Hb pm (.lst [])) pm = some (.lst [])) hpe).symm
    have hpe' : Hb pe = none := (Same.upd hpm : Same Hb (upd Hb pm (.lst []))).free hpe
    have npq1 : pq ≠ pe := (ne_of_none (upd_same : (upd (upd Hb pm (.lst [])) pe (.lst [])) pe = some (.lst [])) hpq).symm
    have npq2 : pq ≠ pm := (ne_of_none (show (upd (upd Hb pm (.lst [])) pe (.lst [])) pm = some (.lst []) by rw [upd_ne npe.symm]; exact upd_same) hpq).symm
    have hpq' : Hb pq = none := ((Same.upd hpm).trans (Same.upd hpe) : Same Hb (upd (upd Hb pm (.lst [])) pe (.lst []))).free hpq
    have mpm : pm ∈ [pm, pe, pq] := by simp
    have mpe : pe ∈ [pm, pe, pq] := by simp
    have mpq : pq ∈ [pm, pe, pq] := by simp
    have tn : ((n : Int)).toNat = n := Int.toNat_natCast n
    refine ⟨_, rfl, (n : Int), rfl, by omega, by omega, for_range (lo := 0) (n := ((n : Int)).toNat) (fun i σ H' => ∃ o1 o2 o3, σ = [some (.ref a), some (.int by_), some (.str L), some (.int m), some (.int c), some (.int (n : Int)), some (.int (L.cps.size : Nat)), some (.int kd), some (.ref pm), some (.ref pe), some (.ref pq), o1, o2, o3, none, none, none] ∧ Bld Hb pm pe pq L.cps.size n i H')
      ⟨none, none, none, rfl, [], [], [], [], [], ?_, ?_, ?_, upd_same, .nil, .nil, rfl, rfl, rfl, by simp, by simp⟩ ?_ ?_⟩
    · rw [msk_upd mpq, msk_upd mpe, msk_upd mpm]
      exact msk_free fun b hb => by
        have e : b = pm ∨ b = pe ∨ b = pq := by simpa using hb
        rcases e with rfl | rfl | rfl
        · exact hpm
        · exact hpe'
        · exact hpq'
    · rw [upd_ne npq2.symm, upd_ne npe.symm]; exact upd_same
    · rw [upd_ne npq1.symm]; exact upd_same
    · -- one state
      rintro i σ H1 hi ⟨o1, o2, o3, rfl, mv, es, md, rs, qs, hb, e1, e2, e3, R1, R2, l1, l2, l3, w1, w2⟩
      rw [tn] at hi
      have hS1 : SqL K H1 a (ns.map V.int) := (sb.trans (hb.trans msk_le)).seq hS
      refine ⟨_, rfl, _, rfl, _, rfl, _, _, rfl, rfl, (by show (0 : Int) < 3; decide), _, _, rfl, rfl, a, ns, _, rfl, hS1, (by omega), fun c2 => ?_⟩
      refine ⟨_, rfl, _, _, rfl, rfl, .inl ⟨by decide, by decide⟩, _, _, rfl, rfl, ?_⟩
      refine ⟨_, rfl, _, _, rfl, rfl, (by show (0 : Int) < 5; decide), _, _, rfl, rfl, ?_⟩
      refine ⟨_, _, rfl, (by omega), (by omega), fun num H2 num0 s2 => ?_⟩
      -- the row
      have kk9 : L.cps.size * L.cps.size ≤ 9 := Nat.mul_le_mul k3 k3
      have kke : ((L.cps.size : Nat) : Int) * ((L.cps.size : Nat) : Int) = ((L.cps.size * L.cps.size : Nat) : Int) := (Int.natCast_mul _ _).symm
      have tkk : (((L.cps.size : Nat) : Int) * ((L.cps.size : Nat) : Int)).toNat = L.cps.size * L.cps.size := by rw [kke]; exact Int.toNat_natCast _
      refine ⟨_, rfl, _, rfl, _, _, rfl, rfl, .inl ⟨by omega, by omega⟩, ((L.cps.size : Nat) : Int) * ((L.cps.size : Nat) : Int), rfl, by rw [kke]; omega, by rw [kke]; omega, fun D1 hD1 => lc_range (lo := 0) (n := (((L.cps.size : Nat) : Int) * ((L.cps.size : Nat) : Int)).toNat) (fun j Hx => RowW H2 D1 n j Hx)
        ⟨Same.upd hD1, [], upd_same, rfl, by simp⟩ ?_ ?_⟩
      · intro j Hx hj hx
        rw [tkk] at hj
        refine ⟨rfl, yesT ?_⟩
        refine ⟨_, rfl, _, rfl, _, _, rfl, rfl, .inl ⟨by decide, by decide⟩, _, _, rfl, rfl, _, rfl, _, _, rfl, rfl, _, _, rfl, (by omega), (by omega), fun v H5 v0 s5 => ?_⟩
        refine ⟨_, _, rfl, rfl, ⟨by decide, by decide⟩, _, rfl, _, _, rfl, rfl, (by show (0 : Int) < (n : Int); omega), ?_⟩
        obtain ⟨g, eg, hg⟩ := nat_mod (v / 3) (show 0 < n by omega)
        dsimp only
        rw [eg]
        obtain ⟨hx1, r, hx2, hx3⟩ := hx
        exact RowW.next hD1 ⟨hx1.trans s5, r, s5 _ _ hx2, hx3⟩ hg (by omega)
      rintro Hx ⟨sx, r, hr1', hrl, hrg⟩
      rw [tkk] at hrl
      -- if kind == 1
      refine ⟨fun σ' H' => ∃ (Dr : Addr) (r : List Nat), σ' = [some (.ref a), some (.int by_), some (.str L), some (.int m), some (.int c), some (.int (n : Int)), some (.int (L.cps.size : Nat)), some (.int kd), some (.ref pm), some (.ref pe), some (.ref pq), some (.int (0 + (i : Int))), some (.int num), some (.ref Dr), none, none, none] ∧
        Same H2 H' ∧ H2 Dr = none ∧ H' Dr = some (.lst (vI r)) ∧ r.length = L.cps.size * L.cps.size ∧ ∀ g ∈ r, g < n, ?_, ?_⟩
      · refine ⟨_, rfl, _, _, rfl, rfl, _, rfl, ite2D (fun hc => ?_) (fun hc => ?_)⟩
        · refine ⟨_, rfl, D1, _, rfl, SqL.of hr1', fun D2 hD2 => lc_it (J := Ite K D1) (n := L.cps.size * L.cps.size) (fun j Hz => RowW Hx D2 n j Hz)
            ⟨Same.upd hD2, [], upd_same, rfl, by simp⟩ (fun j Hz hj hp => ?_) (fun Hz hp => ⟨_, SqL.of (hp.1 _ _ hr1'), by rw [List.length_map, hrl]; exact Nat.le_refl _⟩) ?_ ?_⟩
          · have hj' : j < (vI r).length := by rw [List.length_map, hrl]; exact hj
            exact ⟨_, _, SqL.of (hp.1 _ _ hr1'), List.getElem?_eq_getElem hj'⟩
          · rintro j v Hz Hz' hj hp ⟨Tp, x, rfl, hT, rfl, hx⟩
            have hj' : j < r.length := by rw [hrl]; exact hj
            have hx' := hx _ (SqL.of (hp.1 _ _ hr1'))
            rw [List.getElem?_map, List.getElem?_eq_getElem hj'] at hx'
            cases Option.some.inj hx'
            have hg0 := hrg _ (List.getElem_mem hj')
            have nDT : D2 ≠ Tp := by obtain ⟨_, r2, q, _⟩ := hp; exact ne_of_none q hT
            have hp' : RowW Hx D2 n j (upd Hz Tp (.tup [.int (j : Nat), .int ((r[j] : Nat) : Int)])) := by
              obtain ⟨q1, r2, q2, q3⟩ := hp
              exact ⟨q1.trans (Same.upd hT), r2, by rw [upd_ne nDT]; exact q2, q3⟩
            refine ⟨Tp, _, rfl, SqT.of upd_same, rfl, _, _, rfl, _, _, rfl, rfl, rfl, yesT ?_⟩
            refine ⟨_, rfl, _, rfl, _, _, rfl, rfl, _, _, rfl, rfl, (by show (0 : Int) < ((L.cps.size : Nat) : Int) + 1; omega), _, _, rfl, rfl, _, rfl, ite2D (fun _ => ?_) (fun _ => ?_)⟩
            · refine ⟨_, rfl, _, _, rfl, rfl, _, rfl, _, _, rfl, rfl, (by show (0 : Int) < (n : Int); omega), ?_⟩
              obtain ⟨g, eg, hg⟩ := nat_mod (0 + (i : Int) + 1) (show 0 < n by omega)
              dsimp only
              rw [eg]
              exact RowW.next hD2 hp' hg (by omega)
            · refine ⟨_, rfl, ?_⟩
              exact RowW.next hD2 hp' hg0 (by omega)
          · rintro Hz ⟨sz, r2, q2, q3, q4⟩
            exact ⟨D2, r2, rfl, sx.trans sz, sx.free hD2, q2, q3, q4⟩
        · exact ⟨D1, r, rfl, sx, hD1, hr1', hrl, hrg⟩
      clear sx r hr1' hrl hrg hD1 D1 Hx
      rintro σ' Hx ⟨Dr, r, rfl, sx, hDr0, hDr, hrl, hrg⟩
      have s1x : Same H1 Hx := s2.trans sx
      have nDr : Dr ∉ [pm, pe, pq] := by
        intro q
        have e : Dr = pm ∨ Dr = pe ∨ Dr = pq := by simpa using q
        rcases e with rfl | rfl | rfl
        · rw [s2 _ _ e1] at hDr0; cases hDr0
        · rw [s2 _ _ e2] at hDr0; cases hDr0
        · rw [s2 _ _ e3] at hDr0; cases hDr0
      have hrs : rs.length = i := by rw [R1.len, List.length_map]; exact l1
      have hqs : qs.length = i := by rw [R2.len, List.length_map]; exact l3
      -- moves.append(row)
      refine ⟨_, rfl, .inl ⟨rfl, _, SqL.of (s1x _ _ e1)⟩, _, rfl, pm, _, _, rfl, rfl, s1x _ _ e1, by rw [hrs]; exact sz_lt (by omega), ?_⟩
      have R1x : Rows (msk (upd Hx pm (.lst (rs ++ [.ref Dr]))) [pm, pe, pq]) (rs ++ [.ref Dr]) ((mv ++ [r]).map vI) := by
        rw [msk_upd mpm, List.map_append]
        exact RowsM.snoc (R1.same (msk_same s1x)) nDr hDr
      have R2x : Rows (msk (upd Hx pm (.lst (rs ++ [.ref Dr]))) [pm, pe, pq]) qs (md.map vB) := by
        rw [msk_upd mpm]
        exact R2.same (msk_same s1x)
      have hbx : Same Hb (msk (upd Hx pm (.lst (rs ++ [.ref Dr]))) [pm, pe, pq]) := by
        rw [msk_upd mpm]
        exact hb.trans (msk_same s1x)
      have f1 : (upd Hx pm (.lst (rs ++ [.ref Dr]))) pm = some (.lst (rs ++ [.ref Dr])) := upd_same
      have f2 : (upd Hx pm (.lst (rs ++ [.ref Dr]))) pe = some (.lst (vB es)) := by rw [upd_ne npe]; exact s1x _ _ e2
      have f3 : (upd Hx pm (.lst (rs ++ [.ref Dr]))) pq = some (.lst qs) := by rw [upd_ne npq2]; exact s1x _ _ e3
      generalize upd Hx pm (.lst (rs ++ [.ref Dr])) = H4 at R1x R2x hbx f1 f2 f3 ⊢
      -- ends.append(..)
      refine ⟨_, rfl, .inl ⟨rfl, _, SqL.of f2⟩, _, rfl, _, _, rfl, by decide, by decide, fun v3 H5 v30 s5 => ?_⟩
      refine ⟨by show 3 ≤ sizeLine; decide, fun p3 hp3 => ?_⟩
      obtain ⟨t3, at3, t30⟩ := pick3 (x := 2) (y := 2) (z := 5) kd0 kd3 (by decide) (by decide) (by decide)
      refine ⟨_, rfl, p3, _, _, _, rfl, rfl, SqT.of upd_same, at3, _, _, rfl, rfl, t30, _, _, rfl, rfl, ?_⟩
      have s6 : Same H4 (upd H5 p3 (.tup [.int 2, .int 2, .int 5])) := s5.trans (Same.upd hp3)
      refine ⟨pe, _, _, rfl, rfl, s6 _ _ f2, by rw [List.length_map, l2]; exact sz_lt (by omega), ?_⟩
      generalize hbb : decide (v3 % t3 = 0) = bb
      have f2e : vB es ++ [V.bl bb] = vB (es ++ [bb]) := by simp [vB]
      dsimp only
      rw [hbb, f2e]
      have R1y : Rows (msk (upd (upd H5 p3 (.tup [.int 2, .int 2, .int 5])) pe (.lst (vB (es ++ [bb])))) [pm, pe, pq]) (rs ++ [.ref Dr]) ((mv ++ [r]).map vI) := by
        rw [msk_upd mpe]; exact R1x.same (msk_same s6)
      have R2y : Rows (msk (upd (upd H5 p3 (.tup [.int 2, .int 2, .int 5])) pe (.lst (vB (es ++ [bb])))) [pm, pe, pq]) qs (md.map vB) := by
        rw [msk_upd mpe]; exact R2x.same (msk_same s6)
      have hby' : Same Hb (msk (upd (upd H5 p3 (.tup [.int 2, .int 2, .int 5])) pe (.lst (vB (es ++ [bb])))) [pm, pe, pq]) := by
        rw [msk_upd mpe]; exact hbx.trans (msk_same s6)
      have g1 : (upd (upd H5 p3 (.tup [.int 2, .int 2, .int 5])) pe (.lst (vB (es ++ [bb])))) pm = some (.lst (rs ++ [.ref Dr])) := by rw [upd_ne npe.symm]; exact s6 _ _ f1
      have g2 : (upd (upd H5 p3 (.tup [.int 2, .int 2, .int 5])) pe (.lst (vB (es ++ [bb])))) pe = some (.lst (vB (es ++ [bb]))) := upd_same
      have g3 : (upd (upd H5 p3 (.tup [.int 2, .int 2, .int 5])) pe (.lst (vB (es ++ [bb])))) pq = some (.lst qs) := by rw [upd_ne npq1]; exact s6 _ _ f3
      generalize upd (upd H5 p3 (.tup [.int 2, .int 2, .int 5])) pe (.lst (vB (es ++ [bb]))) = H7 at R1y R2y hby' g1 g2 g3 ⊢
      -- middles.append([..])
      have tk : (((L.cps.size : Nat) : Int)).toNat = L.cps.size := Int.toNat_natCast _
      refine ⟨_, rfl, .inl ⟨rfl, _, SqL.of g3⟩, _, rfl, ((L.cps.size : Nat) : Int), rfl, by omega, by omega, fun Dm hDm => lc_range (lo := 0) (n := (((L.cps.size : Nat) : Int)).toNat) (fun j Hz => RowB H7 Dm j Hz)
        ⟨Same.upd hDm, [], upd_same, rfl⟩ ?_ ?_⟩
      · intro j Hz hj hz'
        rw [tk] at hj
        refine ⟨rfl, yesT ?_⟩
        refine ⟨_, rfl, _, rfl, _, _, rfl, rfl, _, _, rfl, by decide, by decide, fun v H8 v0 s8 => ?_⟩
        refine ⟨by show 3 ≤ sizeLine; decide, fun p8 hp8 => ?_⟩
        obtain ⟨t8, at8, t80⟩ := pick3 (x := 2) (y := 3) (z := 5) kd0 kd3 (by decide) (by decide) (by decide)
        refine ⟨_, rfl, p8, _, _, _, rfl, rfl, SqT.of upd_same, at8, _, _, rfl, rfl, t80, _, _, rfl, rfl, ?_⟩
        obtain ⟨q1, r2, q2, q3⟩ := hz'
        have s88 : Same Hz (upd H8 p8 (.tup [.int 2, .int 3, .int 5])) := s8.trans (Same.upd hp8)
        exact RowB.next hDm ⟨q1.trans s88, r2, s88 _ _ q2, q3⟩ (by omega)
      rintro H8 ⟨s8, bs, e8, hbl⟩
      rw [tk] at hbl
      have nDm : Dm ∉ [pm, pe, pq] := by
        intro q
        have e : Dm = pm ∨ Dm = pe ∨ Dm = pq := by simpa using q
        rcases e with rfl | rfl | rfl
        · rw [g1] at hDm; cases hDm
        · rw [g2] at hDm; cases hDm
        · rw [g3] at hDm; cases hDm
      refine ⟨pq, _, _, rfl, rfl, s8 _ _ g3, by rw [hqs]; exact sz_lt (by omega), ?_⟩
      refine ⟨_, _, _, rfl, mv ++ [r], es ++ [bb], md ++ [bs], rs ++ [.ref Dr], qs ++ [.ref Dm], ?_, ?_, ?_, upd_same, ?_, ?_, by simp [l1], by simp [l2], by simp [l3], ?_, ?_⟩
      · rw [msk_upd mpq]; exact hby'.trans (msk_same s8)
      · rw [upd_ne npq2.symm]; exact s8 _ _ g1
      · rw [upd_ne npq1.symm]; exact s8 _ _ g2
      · rw [msk_upd mpq]; exact R1y.same (msk_same s8)
      · rw [msk_upd mpq, List.map_append]
        exact RowsM.snoc (R2y.same (msk_same s8)) nDm e8
      · intro r' hr'
        rcases List.mem_append.mp hr' with q | q
        · exact w1 _ q
        · rw [List.mem_singleton.mp q]; exact ⟨hrl, hrg⟩
      · intro r' hr'
        rcases List.mem_append.mp hr' with q | q
        · exact w2 _ q
        · rw [List.mem_singleton.mp q]; exact hbl
    · -- return
      rintro σ H1 ⟨o1, o2, o3, rfl, mv, es, md, rs, qs, hb, e1, e2, e3, R1, R2, l1, l2, l3, w1, w2⟩
      rw [tn] at l1 l2 l3
      refine ⟨_, rfl, _, rfl, _, rfl, _, rfl, by show 4 ≤ sizeLine; decide, fun pt hpt => ?_⟩
      have st : Same H1 (upd H1 pt (.tup [.str L, .ref pm, .ref pe, .ref pq])) := Same.upd hpt
      refine kk ⟨L, mv, es, md⟩ _ _ ⟨hL, by show 1 ≤ mv.length; omega, by show mv.length ≤ 40; omega, fun r hr' => ?_, by show es.length = mv.length; omega, by show md.length = mv.length; omega, w2⟩ rfl (by show ((mv.length : Nat) : Int) ≤ m; omega) ((sb.trans (hb.trans msk_le)).trans st)
        ⟨pt, pm, pe, pq, rs, qs, rfl, upd_same, st _ _ e1, (R1.same msk_le).same st, st _ _ e2, st _ _ e3, (R2.same msk_le).same st⟩
      obtain ⟨q1, q2⟩ := w1 r hr'
      exact ⟨q1, fun g hg => by have := q2 g hg; show g < mv.length; omega⟩
end
end Be

namespace Be
open PySem L2
/-! ### reading from a state on -/
def Mach.hasAt (M : Mach) (q : Nat) (w : List Nat) : Bool :=
  let q' := M.run q ((w.zip w.reverse).take (w.length / 2))
  if w.length % 2 = 0 then M.fin q' else M.mid q' (w.getD (w.length / 2) 0)
theorem take_zip' {α β : Type} : ∀ (n : Nat) (l : List α) (r : List β), (l.zip r).take n = (l.take n).zip (r.take n)
  | 0, _, _ => by simp
  | n + 1, [], _ => by simp
  | n + 1, _ :: _, [] => by simp
  | n + 1, a :: l, b :: r => by simp [take_zip' n l r]
theorem Mach.has_at (M : Mach) (w : List Nat) : M.has w = M.hasAt 0 w := by
  unfold Mach.has Mach.hasAt Mach.bhd
  have e : (w.drop (w.length - w.length / 2)).reverse = w.reverse.take (w.length / 2) := by
    rw [List.take_reverse]
  rw [e, ← take_zip']
theorem at_neg1 {α : Type} {l : List α} (h : 0 < l.length) : atI l (-1) = l[l.length - 1]? := by
  unfold atI ixN
  rw [if_neg (by omega), if_pos (by omega)]
  show l[((-1 : Int) + (l.length : Int)).toNat]? = _
  congr 1
  omega
theorem str_ext {x y : Str} (h : x.cps.toList = y.cps.toList) : x = y := by
  cases x; cases y
  congr 1
  exact Array.toList_inj.mp h
theorem app_list (x y : Str) : (x ++ y).cps.toList = x.cps.toList ++ y.cps.toList := by
  show (x.cps ++ y.cps).toList = _
  simp
theorem cut_in {z : Str} (h : 2 ≤ z.cps.size) : (cutS z (some 1) (some (-1))).cps.toList = (z.cps.toList.drop 1).take (z.cps.size - 2) := by
  show (((z.cps.toList.drop (HT.sIx z.length 0 (some 1))).take (HT.sIx z.length z.length (some (-1)) - HT.sIx z.length 0 (some 1))).toArray).toList = _
  have e1 : HT.sIx z.length 0 (some 1) = 1 := by
    have := HT.sIx_nat z.length 0 1
    have h2 : z.length = z.cps.size := rfl
    rw [show ((1 : Nat) : Int) = (1 : Int) from rfl] at this
    rw [this, h2]; omega
  have e2 : HT.sIx z.length z.length (some (-1)) = z.cps.size - 1 := by
    show (if (-1 : Int) < 0 then ((-1 : Int) + ((z.cps.size : Nat) : Int)).toNat else min (-1 : Int).toNat z.cps.size) = _
    rw [if_pos (by decide)]; omega
  rw [e1, e2, List.toList_toArray]
  congr 1
/-- the part of w that is left after j pairs -/
def rest_ (w : List Nat) (j : Nat) : List Nat := (w.drop j).take (w.length - 2 * j)
theorem rest_len {w : List Nat} {j : Nat} (h : 2 * j ≤ w.length) : (rest_ w j).length = w.length - 2 * j := by
  unfold rest_; rw [List.length_take, List.length_drop]; omega
theorem rest_get {w : List Nat} {j i : Nat} (h : i < w.length - 2 * j) : (rest_ w j)[i]? = w[j + i]? := by
  unfold rest_; rw [List.getElem?_take_of_lt h, List.getElem?_drop]
theorem rest_next {w : List Nat} {j : Nat} (h : 2 * (j + 1) ≤ w.length) : ((rest_ w j).drop 1).take (w.length - 2 * j - 2) = rest_ w (j + 1) := by
  unfold rest_
  rw [List.drop_take, List.take_take, List.drop_drop]
  congr 1
  omega
section
variable {P : Program} {w : World} {K : PySem.W.Frag} {mg : Str → Option Value} {base : Heap}
/-! ### _law_has -/
def spLHas : Sp := fun vs H Q _ => ∃ (v : V) (M : Mach) (x : Str) (q : Nat), vs = [v, .str x, .int (q : Int)] ∧ MAt H v M ∧ M.Ok ∧ Over M.letters x ∧ x.cps.size ≤ 10000 ∧ q < M.n ∧ Q (.bl (M.hasAt q x.cps.toList)) H
abbrev NH : List Str := ["_law_machine_here", "_law_word", "_law_state", "_law_letters_here", "_law_moves", "_law_ends", "_law_middles", "_law_first", "_law_last"]
theorem sc34 : FnScope NH ["_law_machine_here", "_law_word", "_law_state"] (defScope (top 42)) := ⟨rfl, rfl, rfl, by decide +kernel, rfl, by decide +kernel, by decide +kernel⟩
set_option maxHeartbeats 1000000 in
theorem ok_lhas {f : Addr} {fd : FuncData} (D : Def K mg "_law_has" (top 42) ["_law_machine_here", "_law_word", "_law_state"] f fd) (T : BI mg) : FnOk P w K mg base CX0 1 f fd ["_law_machine_here", "_law_word", "_law_state"] spLHas := by
  refine D.F.ok sc34 (fun vs H Q E h => ?_) (fun cdv A outer s H vs Q E hr h => ?_)
  · obtain ⟨v, M, x, q, rfl, _⟩ := h; rfl
  · obtain ⟨v, M, x, q0, rfl, ⟨a, pm, pe, pq, rs, qs, rfl, h1, h2, h3, h4, h5, h6⟩, ok, ho, hl, hq0, k⟩ := h
    refine ⟨_, pss_cons (ps_asg (pv 0) (pg_tup (by rfl) (pgs_cons (pg_name (i := 3) sc34.nd rfl (Or.inl rfl)) (pgs_cons (pg_name (i := 4) sc34.nd rfl (Or.inl rfl)) (pgs_cons (pg_name (i := 5) sc34.nd rfl (Or.inl rfl)) (pgs_cons (pg_name (i := 6) sc34.nd rfl (Or.inl rfl)) pgs_nil))))))
      (pss_cons (ps_while PassesOwn.never (pt_cmp (pc_gt (pe_callB call_len_str (by rfl) T.len PySem.boot_len (pa_cons (pv 1) pa_nil)) pe_int))
        (pss_cons (ps_set (i := 7) sc34.nd rfl (Or.inl rfl) (pe_sindex (pv 3) (pe_ix ix_str (pv 1) pe_int (fun _ _ => rfl))))
        (pss_cons (ps_set (i := 8) sc34.nd rfl (Or.inl rfl) (pe_sindex (pv 3) (pe_ix ix_str (pv 1) (pe_un un_neg pe_int) (fun _ _ => rfl))))
        (pss_cons (ps_set (i := 2) sc34.nd rfl (Or.inl rfl) (pe_ix ix_list (pe_ix ix_list (pv 4) (pv 2) (fun _ _ => rfl)) (pe_op op_add (pe_op op_mul (pv 7) (pe_callB call_len_str (by rfl) T.len PySem.boot_len (pa_cons (pv 3) pa_nil))) (pv 8)) (fun _ _ => rfl)))
        (pss_one (ps_set (i := 1) sc34.nd rfl (Or.inl rfl) (pe_slice sl_str (pv 1) (po_some pe_int) (po_some (pe_un un_neg pe_int)))))))))
      (pss_one (ps_ret (pe_ifExp (pt_cmpR op_eq (pv 1) pe_str (nomark _)) (pe_ix ix_list (pv 5) (pv 2) (fun _ _ => rfl)) (pe_ix ix_list (pe_ix ix_list (pv 6) (pv 2) (fun _ _ => rfl)) (pe_sindex (pv 3) (pv 1)) (fun _ _ => rfl)))))), ?_⟩
    refine ⟨_, rfl, a, _, rfl, SqT.of h1, rfl, _, _, rfl, _, _, rfl, _, _, rfl, _, _, rfl, rfl, ?_⟩
    have el : x.cps.toList.length = x.cps.size := Array.length_toList
    have hk3 : M.letters.cps.size ≤ 3 := ok.let_.k3
    have hlq : ∀ j, M.run q0 ((x.cps.toList.zip x.cps.toList.reverse).take j) < M.n := fun j => Mach.run_lt ok _ _ hq0 fun p hp => by
      obtain ⟨q1, q2⟩ := List.of_mem_zip (List.mem_of_mem_take hp)
      exact ⟨ho _ q1, ho _ (List.mem_reverse.mp q2)⟩
    refine ⟨fun m σ H' => ∃ (j : Nat) (y : Str) (o1 o2 : Option V), 2 * j ≤ x.cps.size ∧ m = x.cps.size - j ∧ y.cps.toList = rest_ x.cps.toList j ∧ H' = H ∧
      σ = [some (.ref a), some (.str y), some (.int (M.run q0 ((x.cps.toList.zip x.cps.toList.reverse).take j) : Nat)), some (.str M.letters), some (.ref pm), some (.ref pe), some (.ref pq), o1, o2],
      ⟨_, 0, x, none, none, by omega, rfl, by unfold rest_; rw [Nat.mul_zero, Nat.sub_zero, List.drop_zero, List.take_of_length_le (Nat.le_refl _)], rfl, rfl⟩, ?_⟩
    rintro m σ H' ⟨j, y, o1, o2, hj, rfl, hy, rfl, rfl⟩
    have hyl : y.cps.size = x.cps.size - 2 * j := by
      have := congrArg List.length hy
      rw [rest_len (by rw [el]; exact hj), el] at this
      simpa using this
    have hzy : y.length ≤ sizeLine := sz_le (by show y.cps.size ≤ _; omega)
    refine ⟨_, rfl, y, rfl, hzy, _, _, rfl, rfl, _, rfl, ite2D (fun hc => ?_) (fun hc => ?_)⟩
    · -- one pair
      have hc' : 1 < ((y.cps.size : Nat) : Int) := hc
      have hlt : 2 * (j + 1) ≤ x.cps.size := by omega
      have hj1 : j < x.cps.toList.length := by rw [el]; omega
      have hj2 : x.cps.toList.length - 1 - j < x.cps.toList.length := by rw [el]; omega
      have c1 : y.cps.toList[0]? = some (x.cps.toList[j]'hj1) := by
        rw [hy, rest_get (by rw [el]; omega), Nat.add_zero]; exact List.getElem?_eq_getElem hj1
      have c2 : atI y.cps.toList (-1) = some (x.cps.toList[x.cps.toList.length - 1 - j]'hj2) := by
        rw [at_neg1 (by rw [Array.length_toList]; omega), Array.length_toList, hyl, hy, rest_get (by rw [el]; omega)]
        rw [← List.getElem?_eq_getElem hj2]
        congr 1
        rw [el]; omega
      have m1 : x.cps.toList[j]'hj1 ∈ M.L := ho _ (List.getElem_mem hj1)
      have m2 : x.cps.toList[x.cps.toList.length - 1 - j]'hj2 ∈ M.L := ho _ (List.getElem_mem hj2)
      have hz : (x.cps.toList.zip x.cps.toList.reverse)[j]? = some (x.cps.toList[j]'hj1, x.cps.toList[x.cps.toList.length - 1 - j]'hj2) := by
        rw [List.getElem?_zip_eq_some]
        refine ⟨List.getElem?_eq_getElem hj1, ?_⟩
        rw [List.getElem?_reverse hj1]
        exact List.getElem?_eq_getElem hj2
      generalize x.cps.toList[j]'hj1 = c at c1 m1 hz
      generalize x.cps.toList[x.cps.toList.length - 1 - j]'hj2 = d at c2 m2 hz
      obtain ⟨row, er, ec, _⟩ := Mach.cell ok (hlq j) m1 m2
      have er' : (M.moves.map vI)[M.run q0 ((x.cps.toList.zip x.cps.toList.reverse).take j)]? = some (vI row) := by rw [List.getElem?_map, er]; rfl
      obtain ⟨p, hp, hpl⟩ := h3.at er'
      refine ⟨fun σ' H'' => ∃ (y : Str) (o1 o2 : Option V), y.cps.toList = rest_ x.cps.toList (j + 1) ∧ H'' = H' ∧
        σ' = [some (.ref a), some (.str y), some (.int (M.run q0 ((x.cps.toList.zip x.cps.toList.reverse).take (j + 1)) : Nat)), some (.str M.letters), some (.ref pm), some (.ref pe), some (.ref pq), o1, o2],
        fun σ' H'' ⟨y, o1, o2, q1, q2, q3⟩ => ⟨x.cps.size - (j + 1), by omega, j + 1, y, o1, o2, hlt, rfl, q1, q2, q3⟩, ?_⟩
      refine ⟨_, rfl, ⟨_, rfl⟩, _, rfl, y, _, _, rfl, rfl, hzy, atI_nat (j := 0) c1, M.letters, c, rfl, rfl, m1, ?_⟩
      refine ⟨_, rfl, ⟨_, rfl⟩, _, rfl, _, rfl, y, _, _, rfl, rfl, hzy, c2, M.letters, d, rfl, rfl, m2, ?_⟩
      refine ⟨_, rfl, _, rfl, pm, rs, _, _, rfl, rfl, SqL.of h2, atI_nat hp, ?_⟩
      refine ⟨_, rfl, _, rfl, M.letters, rfl, sz_le (by show M.letters.cps.size ≤ _; omega), _, _, rfl, rfl, .inr ?_, _, rfl, _, _, rfl, rfl, ?_⟩
      · show -(2 ^ 64) < ((M.letters.cps.size : Nat) : Int) ∧ ((M.letters.cps.size : Nat) : Int) < 2 ^ 64
        omega
      have ecast : (((M.letters.cps.toList.idxOf c : Nat) : Int) * ((M.letters.length : Nat) : Int) + ((M.letters.cps.toList.idxOf d : Nat) : Int)) = ((M.ix c * M.k + M.ix d : Nat) : Int) := by
        show (((M.letters.cps.toList.idxOf c : Nat) : Int) * ((M.letters.cps.size : Nat) : Int) + ((M.letters.cps.toList.idxOf d : Nat) : Int)) = _
        rw [Int.natCast_add, Int.natCast_mul]; rfl
      refine ⟨p, vI row, _, _, rfl, rfl, SqL.of hpl, at_of ecast (by rw [List.getElem?_map, ec]; rfl), ?_⟩
      refine ⟨_, rfl, _, rfl, _, rfl, _, rfl, y, rfl, hzy, ?_⟩
      refine ⟨cutS y (some 1) (some (-1)), some (.int (M.letters.cps.toList.idxOf c : Nat)), some (.int (M.letters.cps.toList.idxOf d : Nat)), ?_, rfl, ?_⟩
      · rw [cut_in (by omega), hy, hyl, ← rest_next (by rw [el]; exact hlt), el]
      · rw [List.take_succ_eq_append_getElem (by exact (List.getElem?_eq_some_iff.mp hz).1), (List.getElem?_eq_some_iff.mp hz).2, run_snoc]
        rfl
    · -- the end
      have hc' : ¬ 1 < ((y.cps.size : Nat) : Int) := hc
      have hjh : j = x.cps.size / 2 := by omega
      unfold Mach.hasAt at k
      simp only [el] at k
      subst hjh
      have hqq := hlq (x.cps.size / 2)
      generalize M.run q0 ((x.cps.toList.zip x.cps.toList.reverse).take (x.cps.size / 2)) = q at k hqq ⊢
      refine ⟨_, rfl, rfl, _, rfl, ite2D (fun he => ?_) (fun he => ?_)⟩
      · have hy0 : y.cps.size = 0 := by
          have : y = "" := by injection he
          rw [this]; rfl
        rw [if_pos (by omega)] at k
        exact ⟨_, rfl, _, rfl, pe, _, _, _, rfl, rfl, SqL.of h4, atI_nat (by rw [List.getElem?_map, Mach.fin_at ok hqq]; rfl), k⟩
      · have hy1 : y.cps.size = 1 := by
          have h0 : y.cps.size ≠ 0 := fun h0 => he (congrArg V.str (str_ext (by
            have : y.cps.toList = [] := List.length_eq_zero_iff.mp (by rw [Array.length_toList]; exact h0)
            rw [this]; rfl)))
          omega
        rw [if_neg (by omega)] at k
        have hlt : x.cps.size / 2 < x.cps.toList.length := by rw [el]; omega
        have hcx : x.cps.toList[x.cps.size / 2]? = some (x.cps.toList.getD (x.cps.size / 2) 0) := by
          rw [List.getD_eq_getElem?_getD, List.getElem?_eq_getElem hlt, Option.getD_some]
        have mc : x.cps.toList.getD (x.cps.size / 2) 0 ∈ M.L := ho _ (List.mem_of_getElem? hcx)
        generalize x.cps.toList.getD (x.cps.size / 2) 0 = c at k hcx mc
        have hyc : y = ⟨#[c]⟩ := by
          refine str_ext ?_
          have e0 : y.cps.toList[0]? = some c := by
            rw [hy, rest_get (by rw [el]; omega), Nat.add_zero]; exact hcx
          have el1 : y.cps.toList.length = 1 := by rw [Array.length_toList]; exact hy1
          obtain ⟨b, hb⟩ := List.length_eq_one_iff.mp el1
          rw [hb] at e0 ⊢
          simp at e0
          rw [e0]
        subst hyc
        obtain ⟨row, er, ec⟩ := Mach.mid_at ok hqq mc
        have er' : (M.mids.map vB)[q]? = some (vB row) := by rw [List.getElem?_map, er]; rfl
        obtain ⟨p, hp, hpl⟩ := h6.at er'
        exact ⟨_, rfl, _, rfl, pq, qs, _, _, rfl, rfl, SqL.of h5, atI_nat hp, _, rfl, ⟨_, rfl⟩, _, rfl, M.letters, c, rfl, rfl, mc, p, _, _, _, rfl, rfl, SqL.of hpl, atI_nat (by rw [List.getElem?_map, show row[M.letters.cps.toList.idxOf c]? = _ from ec]; rfl), k⟩
end
end Be

namespace Be
open PySem L2
section
variable {P : Program} {w : World} {K : PySem.W.Frag} {mg : Str → Option Value} {base : Heap}
/-! ### _law_texts -/
abbrev NT : List Str := ["_law_letters_here", "_law_long", "_law_found", "_law_turn", "_law_longer", "_law_text", "_law_letter"]
theorem sc35 : FnScope NT ["_law_letters_here", "_law_long"] (defScope (top 43)) := ⟨rfl, rfl, rfl, by decide +kernel, rfl, by decide +kernel, by decide +kernel⟩
theorem over_nil {L : Str} : Over L "" := fun c hc => by
  have e : ("" : Str).cps.toList = [] := rfl
  rw [e] at hc
  cases hc
theorem over_app {L x y : Str} (h1 : Over L x) (h2 : Over L y) : Over L (x ++ y) := fun c hc => by
  rw [app_list] at hc
  rcases List.mem_append.mp hc with q | q
  · exact h1 c q
  · exact h2 c q
theorem size_app (x y : Str) : (x ++ y).cps.size = x.cps.size + y.cps.size := by
  have := congrArg List.length (app_list x y)
  simpa using this
/-! ### _law_few -/
/-! ### _law_drawn -/
def spDrawn (K : PySem.W.Frag) : Sp := fun vs H Q _ => ∃ (a : Addr) (ns : List Int) (by_ : Int) (L : Str) (m : Int), vs = [.ref a, .int by_, .str L, .int m] ∧ SqL K H a (ns.map V.int) ∧ 0 ≤ by_ ∧ LetOk L ∧ 0 ≤ m ∧ m ≤ 1000 ∧
  ∀ (y : Str) (H' : Hp), Same H H' → Over L y → (y.cps.size : Int) ≤ m → Q (.str y) H'
theorem sc37 : FnScope ["_law_script", "_law_by", "_law_letters_here", "_law_most", "_law_cell", "_law_found", "_law_at"] ["_law_script", "_law_by", "_law_letters_here", "_law_most"] (defScope (top 44)) := ⟨rfl, rfl, rfl, by decide +kernel, rfl, by decide +kernel, by decide +kernel⟩
set_option maxHeartbeats 1000000 in
theorem ok_drawn {f f26 f28 : Addr} {fd fd26 fd28 : FuncData} (D : Def K mg "_law_drawn" (top 44) ["_law_script", "_law_by", "_law_letters_here", "_law_most"] f fd) (T : BI mg)
    (D26 : Def K mg "_law_cell_at" (top 36) ["_law_script", "_law_k"] f26 fd26) (G26 : FnOk P w K mg base CX0 1 f26 fd26 ["_law_script", "_law_k"] (spCell K))
    (D28 : Def K mg "_law_value" (top 38) ["_law_cell", "_law_turn"] f28 fd28) (G28 : FnOk P w K mg base CX0 2 f28 fd28 ["_law_cell", "_law_turn"] spValue) :
    FnOk P w K mg base CX0 3 f fd ["_law_script", "_law_by", "_law_letters_here", "_law_most"] (spDrawn K) := by
  refine D.F.ok sc37 (fun vs H Q E h => ?_) (fun cdv A outer s H vs Q E hr h => ?_)
  · obtain ⟨a, ns, by_, L, m, rfl, _⟩ := h; rfl
  · obtain ⟨a, ns, by_, L, m, rfl, hS, hby, hL, hm0, hm, kk⟩ := h
    have hr1 : Room 1 _ := hr.mono (by decide)
    refine ⟨_, pss_cons (ps_set (i := 4) sc37.nd rfl (Or.inl rfl) (pe_call G26 hr1 (by rfl) D26.m D26.F.kp D26.b .nil pass0 (pa_cons (pv 0) (pa_cons (pv 1) pa_nil))))
      (pss_cons (ps_set (i := 5) sc37.nd rfl (Or.inl rfl) pe_str)
      (pss_cons (ps_for PassesOwn.never rfl (pi_range1 (by rfl) T.range (pa_cons (pe_op op_mod (pe_call G28 hr (by rfl) D28.m D28.F.kp D28.b .nil pass0 (pa_cons (pv 4) (pa_cons pe_int pa_nil))) (pe_op op_add (pv 3) pe_int)) pa_nil)) (pg_name (i := 6) sc37.nd rfl (Or.inl rfl))
        (pss_one (ps_set (i := 5) sc37.nd rfl (Or.inl rfl) (pe_op op_add_str (pv 5) (pe_ix ix_str (pv 2)
          (pe_op op_mod (pe_op op_fdiv (pe_call G28 hr (by rfl) D28.m D28.F.kp D28.b .nil pass0 (pa_cons (pe_call G26 hr1 (by rfl) D26.m D26.F.kp D26.b .nil pass0 (pa_cons (pv 0) (pa_cons (pe_op op_add (pv 1) (pe_op op_mod (pv 6) pe_int)) pa_nil)))
            (pa_cons (pe_op op_add (pe_op op_mod (pv 6) pe_int) pe_int) pa_nil))) pe_int) (pe_callB call_len_str (by rfl) T.len PySem.boot_len (pa_cons (pv 2) pa_nil))) (fun _ _ => rfl))))))
      (pss_one (ps_ret (pv 5))))), ?_⟩
    have k1 := hL.k1
    have k3 := hL.k3
    have hz : L.length ≤ sizeLine := sz_le (by show L.cps.size ≤ _; omega)
    refine ⟨_, rfl, _, rfl, a, ns, by_, rfl, hS, hby, fun c => ?_⟩
    refine ⟨_, rfl, c, 8, rfl, by decide, by decide, fun v H1 v0 s1 => ?_⟩
    refine ⟨_, rfl, _, _, rfl, rfl, _, _, rfl, rfl, (by show 0 < m + 1; omega), ?_⟩
    have hv1 : 0 ≤ v % (m + 1) := Int.emod_nonneg _ (by omega)
    have hv2 : v % (m + 1) < m + 1 := Int.emod_lt_of_pos _ (by omega)
    refine ⟨v % (m + 1), rfl, by omega, by omega, for_range (lo := 0) (n := (v % (m + 1)).toNat) (fun i σ H' => ∃ (y : Str) (o6 : Option V), σ = [some (.ref a), some (.int by_), some (.str L), some (.int m), some (.int c), some (.str y), o6] ∧ Same H H' ∧ Over L y ∧ y.cps.size = i)
      ⟨"", none, rfl, s1, over_nil, rfl⟩ ?_ ?_⟩
    · rintro i σ H2 hi ⟨y, o6, rfl, s2, hy, hyl⟩
      refine ⟨_, rfl, _, rfl, _, rfl, _, rfl, _, rfl, _, _, rfl, rfl, (by show (0 : Int) < 4; decide), _, _, rfl, rfl, a, ns, _, rfl, s2.seq hS, (by omega), fun c2 => ?_⟩
      refine ⟨_, rfl, _, _, rfl, rfl, (by show (0 : Int) < 9; decide), _, _, rfl, rfl, _, _, rfl, (by omega), (by omega), fun v2 H3 v20 s3 => ?_⟩
      refine ⟨_, _, rfl, rfl, ⟨by decide, by decide⟩, _, rfl, L, rfl, hz, _, _, rfl, rfl, (by show (0 : Int) < ((L.cps.size : Nat) : Int); omega), ?_⟩
      obtain ⟨g, eg, hg⟩ := nat_mod (v2 / 5) (show 0 < L.cps.size by omega)
      have eg' : v2 / 5 % ((L.length : Nat) : Int) = (g : Int) := eg
      have hgl : g < L.cps.toList.length := by rw [Array.length_toList]; exact hg
      have hgm : L.cps.toList[g]'hgl ∈ L.cps.toList := List.getElem_mem hgl
      dsimp only
      rw [eg']
      refine ⟨L, _, L.cps.toList[g]'hgl, rfl, rfl, hz, atI_nat (List.getElem?_eq_getElem hgl), ?_⟩
      refine ⟨y, _, rfl, rfl, sz_le (by show y.cps.size + 1 ≤ _; omega), ?_⟩
      refine ⟨_, _, rfl, s2.trans s3, over_app hy fun d hd => ?_, by rw [size_app, hyl]; rfl⟩
      have : d = L.cps.toList[g]'hgl := by simpa using hd
      rw [this]; exact hgm
    · rintro σ H2 ⟨y, o6, rfl, s2, hy, hyl⟩
      exact ⟨_, rfl, kk y H2 s2 hy (by omega)⟩
/-! ### _law_behind -/
end
end Be

namespace Be
open PySem L2
/-! ### words in two halves -/
/-! ### a machine as data -/
def dI (r : List Nat) : PyData := .list (r.map fun g : Nat => PyData.int (g : Int))
def dB (r : List Bool) : PyData := .list (r.map .bool)
def dM (M : Mach) : PyData := .tuple [.str M.letters, .list (M.moves.map dI), dB M.ends, .list (M.mids.map dB)]
theorem dp_ints {K : PySem.W.Frag} {H : Hp} : ∀ r : List Nat, DpAll K H (vI r) (r.map fun g : Nat => PyData.int (g : Int))
  | [] => .nil
  | g :: r => .cons (.int _) (dp_ints r)
theorem dp_bools {K : PySem.W.Frag} {H : Hp} : ∀ r : List Bool, DpAll K H (vB r) (r.map .bool)
  | [] => .nil
  | g :: r => .cons (.bl _) (dp_bools r)
theorem dp_rowsI {K : PySem.W.Frag} {H : Hp} : ∀ {rs : List V} {mv : List (List Nat)}, Rows H rs (mv.map vI) → DpAll K H rs (mv.map dI)
  | [], [], _ => .nil
  | _ :: _, [], h => by cases h
  | [], _ :: _, h => by cases h
  | r :: rs, m :: mv, h => by
    have h : Paired _ (r :: rs) (vI m :: mv.map vI) := h
    cases h with
    | cons h1 h2 =>
      obtain ⟨p, rfl, e⟩ := h1
      exact .cons (.lst (SqL.of e) (dp_ints m)) (dp_rowsI h2)
theorem dp_rowsB {K : PySem.W.Frag} {H : Hp} : ∀ {rs : List V} {mv : List (List Bool)}, Rows H rs (mv.map vB) → DpAll K H rs (mv.map dB)
  | [], [], _ => .nil
  | _ :: _, [], h => by cases h
  | [], _ :: _, h => by cases h
  | r :: rs, m :: mv, h => by
    have h : Paired _ (r :: rs) (vB m :: mv.map vB) := h
    cases h with
    | cons h1 h2 =>
      obtain ⟨p, rfl, e⟩ := h1
      exact .cons (.lst (SqL.of e) (dp_bools m)) (dp_rowsB h2)
theorem MAt.dp {K : PySem.W.Frag} {H : Hp} {v : V} {M : Mach} (h : MAt H v M) : Dp K H v (dM M) := by
  obtain ⟨a, pm, pe, pq, rs, qs, rfl, h1, h2, h3, h4, h5, h6⟩ := h
  exact .tup (SqT.of h1) (.cons (.str _) (.cons (.lst (SqL.of h2) (dp_rowsI h3)) (.cons (.lst (SqL.of h4) (dp_bools _)) (.cons (.lst (SqL.of h5) (dp_rowsB h6)) .nil))))
theorem lay_all {ds : List PyData} (h : ∀ d ∈ ds, d.canLay0 = true) : PyData.canLayAll0 ds = true := by
  induction ds with
  | nil => rfl
  | cons d ds ih =>
    rw [PyData.canLayAll0, h d (List.mem_cons_self ..), ih fun d' h' => h d' (List.mem_cons_of_mem _ h')]; rfl
theorem dep_all {ds : List PyData} {n : Nat} (h : ∀ d ∈ ds, d.depth ≤ n) : PyData.depthAll ds ≤ n := by
  induction ds with
  | nil => rw [PyData.depthAll]; exact Nat.zero_le _
  | cons d ds ih =>
    rw [PyData.depthAll]
    exact Nat.max_le.mpr ⟨h d (List.mem_cons_self ..), ih fun d' h' => h d' (List.mem_cons_of_mem _ h')⟩
theorem lay_dI (r : List Nat) : (dI r).canLay0 = true := by
  unfold dI
  rw [PyData.canLay0]
  refine lay_all fun d hd => ?_
  obtain ⟨g, _, rfl⟩ := List.mem_map.mp hd
  rfl
theorem lay_dB (r : List Bool) : (dB r).canLay0 = true := by
  unfold dB
  rw [PyData.canLay0]
  refine lay_all fun d hd => ?_
  obtain ⟨g, _, rfl⟩ := List.mem_map.mp hd
  rfl
theorem dep_dI (r : List Nat) : (dI r).depth ≤ 2 := by
  unfold dI
  rw [PyData.depth]
  have := dep_all (n := 1) (ds := r.map fun g : Nat => PyData.int (g : Int)) fun d hd => by
    obtain ⟨g, _, rfl⟩ := List.mem_map.mp hd
    simp [PyData.depth]
  omega
theorem dep_dB (r : List Bool) : (dB r).depth ≤ 2 := by
  unfold dB
  rw [PyData.depth]
  have := dep_all (n := 1) (ds := r.map PyData.bool) fun d hd => by
    obtain ⟨g, _, rfl⟩ := List.mem_map.mp hd
    simp [PyData.depth]
  omega
theorem strOk_let {x : Str} (h : LetOk x) : PyData.canLay0 (.str x) = true := by
  rw [PyData.canLay0]
  unfold PyData.strOk
  rw [Array.all_eq_true_iff_forall_mem]
  intro c hc
  have := h.hi c (by simpa using hc)
  simp; omega
theorem shaped_dM {M : Mach} (ok : M.Ok) : SeqAt.shaped (dM M) = true := by
  unfold SeqAt.shaped
  rw [Bool.and_eq_true]
  constructor
  · unfold dM
    rw [PyData.canLay0]
    refine lay_all fun d hd => ?_
    have e : d = .str M.letters ∨ d = .list (M.moves.map dI) ∨ d = dB M.ends ∨ d = .list (M.mids.map dB) := by simpa using hd
    rcases e with rfl | rfl | rfl | rfl
    · exact strOk_let ok.let_
    · rw [PyData.canLay0]
      refine lay_all fun d hd => ?_
      obtain ⟨g, _, rfl⟩ := List.mem_map.mp hd
      exact lay_dI _
    · exact lay_dB _
    · rw [PyData.canLay0]
      refine lay_all fun d hd => ?_
      obtain ⟨g, _, rfl⟩ := List.mem_map.mp hd
      exact lay_dB _
  · refine decide_eq_true ?_
    have h : PyData.depthAll [.str M.letters, .list (M.moves.map dI), dB M.ends, .list (M.mids.map dB)] ≤ 3 := dep_all fun d hd => by
      have e : d = .str M.letters ∨ d = .list (M.moves.map dI) ∨ d = dB M.ends ∨ d = .list (M.mids.map dB) := by simpa using hd
      rcases e with rfl | rfl | rfl | rfl
      · simp [PyData.depth]
      · rw [PyData.depth]
        have := dep_all (n := 2) (ds := M.moves.map dI) fun d hd => by
          obtain ⟨g, _, rfl⟩ := List.mem_map.mp hd
          exact dep_dI _
        omega
      · have := dep_dB M.ends; omega
      · rw [PyData.depth]
        have := dep_all (n := 2) (ds := M.mids.map dB) fun d hd => by
          obtain ⟨g, _, rfl⟩ := List.mem_map.mp hd
          exact dep_dB _
        omega
    unfold dM
    rw [PyData.depth]
    omega
theorem eqv_dM {M : Mach} (ok : M.Ok) : PyData.eqv (dM M) (dM M) = true := SeqAt.eqv_refl _ (SeqAt.canLay_of_shaped (shaped_dM ok))
end Be

namespace L2
open PySem PySem.Spec PyProof.Rows
/-! ### written data: numbers, truths, texts, lists and tuples of such -/
mutual
inductive Tk (H : Hp) : V → PyData → Prop
  | bl (b : Bool) : Tk H (.bl b) (.bool b)
  | int (i : Int) : Tk H (.int i) (.int i)
  | str (x : Str) : Tk H (.str x) (.str x)
  | lst {a : Addr} {xs : List V} {ds : List PyData} : H a = some (.lst xs) → TkAll H xs ds → Tk H (.ref a) (.list ds)
  | tup {a : Addr} {xs : List V} {ds : List PyData} : H a = some (.tup xs) → TkAll H xs ds → Tk H (.ref a) (.tuple ds)
inductive TkAll (H : Hp) : List V → List PyData → Prop
  | nil : TkAll H [] []
  | cons {v : V} {vs : List V} {d : PyData} {ds : List PyData} : Tk H v d → TkAll H vs ds → TkAll H (v :: vs) (d :: ds)
end
mutual
theorem Tk.same {H H' : Hp} (s : Same H H') : ∀ {v : V} {d : PyData}, Tk H v d → Tk H' v d
  | _, _, .bl b => .bl b
  | _, _, .int i => .int i
  | _, _, .str x => .str x
  | _, _, .lst e h => .lst (s _ _ e) (TkAll.same s h)
  | _, _, .tup e h => .tup (s _ _ e) (TkAll.same s h)
theorem TkAll.same {H H' : Hp} (s : Same H H') : ∀ {vs : List V} {ds : List PyData}, TkAll H vs ds → TkAll H' vs ds
  | _, _, .nil => .nil
  | _, _, .cons h t => .cons (Tk.same s h) (TkAll.same s t)
end
mutual
theorem Tk.dp {K : PySem.W.Frag} {H : Hp} : ∀ {v : V} {d : PyData}, Tk H v d → Dp K H v d
  | _, _, .bl b => .bl b
  | _, _, .int i => .int i
  | _, _, .str x => .str x
  | _, _, .lst e h => .lst (SqL.of e) (TkAll.dp h)
  | _, _, .tup e h => .tup (SqT.of e) (TkAll.dp h)
theorem TkAll.dp {K : PySem.W.Frag} {H : Hp} : ∀ {vs : List V} {ds : List PyData}, TkAll H vs ds → DpAll K H vs ds
  | _, _, .nil => .nil
  | _, _, .cons h t => .cons (Tk.dp h) (TkAll.dp t)
end
theorem TkAll.len {H : Hp} : ∀ {vs : List V} {ds : List PyData}, TkAll H vs ds → vs.length = ds.length
  | _, _, .nil => rfl
  | _, _, .cons _ t => by rw [List.length_cons, List.length_cons, TkAll.len t]
def tCd (d : PyData) : TE := fun _ H Q => ∀ v H', Same H H' → Tk H' v d → Q v H'
def tCds (ds : List PyData) : TA := fun _ H Q => ∀ vs H', Same H H' → TkAll H' vs ds → Q vs H'
def cdAll (f : Expr → Option PyData) : List Expr → Option (List PyData)
  | [] => some []
  | e :: es => match f e, cdAll f es with
    | some d, some ds => some (d :: ds)
    | _, _ => none
def cdF : Nat → Expr → Option PyData
  | 0, _ => none
  | n + 1, e => match e with
    | .Constant (.int i) _ _ => some (.int i)
    | .Constant (.bool b) _ _ => some (.bool b)
    | .Constant (.str x) _ _ => some (.str x)
    | .List es _ => if es.length ≤ 1000 then (cdAll (cdF n) es).map .list else none
    | .Tuple es _ _ => if es.length ≤ 1000 then (cdAll (cdF n) es).map .tuple else none
    | _ => none
section
variable {X : Cx}
theorem PE.imp {e : Expr} {t t' : TE} (h : PE X e t) (hi : ∀ σ H Q, t' σ H Q → t σ H Q) : PE X e t' := fun pins s σ H Q I q => h pins s σ H Q I (hi σ H Q q)
theorem PA.imp {es : List Expr} {t t' : TA} (h : PA X es t) (hi : ∀ σ H Q, t' σ H Q → t σ H Q) : PA X es t' := fun pos pins s σ H Q I q => h pos pins s σ H Q I (hi σ H Q q)
theorem cdF_star {n : Nat} {e : Expr} {es : List Expr} {d : PyData} {env : Env} (h : cdF n e = some d) : starEach (e :: es) env = (false, eval e env) :: starEach es env := by
  cases n with
  | zero => cases h
  | succ n =>
    unfold cdF at h
    split at h <;> first | rfl | cases h
theorem cdAll_len {f : Expr → Option PyData} : ∀ {es : List Expr} {ds : List PyData}, cdAll f es = some ds → es.length = ds.length
  | [], _, h => by cases h; rfl
  | e :: es, ds, h => by
    unfold cdAll at h
    split at h
    · rename_i d ds' h1 h2
      cases h
      rw [List.length_cons, List.length_cons, cdAll_len h2]
    · cases h
theorem pa_cds {n : Nat} (ih : ∀ {e : Expr} {d : PyData}, cdF n e = some d → PE X e (tCd d)) : ∀ {es : List Expr} {ds : List PyData}, cdAll (cdF n) es = some ds → PA X es (tCds ds)
  | [], _, h => by
    cases h
    exact PA.imp pa_nil fun σ H Q q => q [] H (Same.refl _) .nil
  | e :: es, ds, h => by
    unfold cdAll at h
    split at h
    · rename_i d ds' h1 h2
      cases h
      refine PA.imp (pa_cons (ih h1) (pa_cds ih h2) (cdF_star h1)) fun σ H Q q v H1 s1 t1 vs H2 s2 t2 => ?_
      exact q (v :: vs) H2 (s1.trans s2) (.cons (t1.same s2) t2)
    · cases h
theorem sl1000 {n : Nat} (h : n ≤ 1000) : n ≤ sizeLine := Nat.le_trans h (by decide)
theorem upd_new {H : Hp} {a : Addr} {o : HO} (h : H a = none) : Same H (upd H a o) := fun b u e => by rw [upd_ne (ne_of_none e h)]; exact e
theorem pe_cst : ∀ {n : Nat} {e : Expr} {d : PyData}, cdF n e = some d → PE X e (tCd d)
  | 0, _, _, h => by cases h
  | n + 1, e, d, h => by
    unfold cdF at h
    split at h
    · cases h; exact PE.imp pe_int fun σ H Q q => q _ H (Same.refl _) (.int _)
    · cases h; exact PE.imp pe_bl fun σ H Q q => q _ H (Same.refl _) (.bl _)
    · cases h; exact PE.imp pe_str fun σ H Q q => q _ H (Same.refl _) (.str _)
    · split at h
      · rename_i hl
        cases e2 : cdAll (cdF n) _ with
        | none => rw [e2] at h; cases h
        | some ds =>
          rw [e2] at h
          cases h
          refine PE.imp (pe_lst (pa_cds (fun h => pe_cst h) e2)) fun σ H Q q vs H1 s1 t1 => ?_
          refine ⟨sl1000 (by rw [t1.len, ← cdAll_len e2]; exact hl), fun p hp => q _ _ (s1.trans (upd_new hp)) (.lst upd_same (t1.same (upd_new hp)))⟩
      · cases h
    · split at h
      · rename_i hl
        cases e2 : cdAll (cdF n) _ with
        | none => rw [e2] at h; cases h
        | some ds =>
          rw [e2] at h
          cases h
          refine PE.imp (pe_tup (pa_cds (fun h => pe_cst h) e2)) fun σ H Q q vs H1 s1 t1 => ?_
          refine ⟨sl1000 (by rw [t1.len, ← cdAll_len e2]; exact hl), fun p hp => q _ _ (s1.trans (upd_new hp)) (.tup upd_same (t1.same (upd_new hp)))⟩
      · cases h
    · cases h
end
end L2
namespace Be
open PySem L2
theorem tk_ints {H : Hp} : ∀ {vs : List V} {r : List Nat}, TkAll H vs (r.map fun g : Nat => PyData.int (g : Int)) → vs = vI r
  | _, [], h => by cases h; rfl
  | _, g :: r, h => by
    have h : TkAll H _ (PyData.int (g : Int) :: r.map fun g : Nat => PyData.int (g : Int)) := h
    cases h with
    | cons h t => cases h; rw [tk_ints t]; rfl
theorem tk_bools {H : Hp} : ∀ {vs : List V} {r : List Bool}, TkAll H vs (r.map PyData.bool) → vs = vB r
  | _, [], h => by cases h; rfl
  | _, g :: r, h => by
    have h : TkAll H _ (PyData.bool g :: r.map PyData.bool) := h
    cases h with
    | cons h t => cases h; rw [tk_bools t]; rfl
theorem tk_rowsI {H : Hp} : ∀ {vs : List V} {mv : List (List Nat)}, TkAll H vs (mv.map dI) → Rows H vs (mv.map vI)
  | _, [], h => by cases h; exact .nil
  | _, m :: mv, h => by
    have h : TkAll H _ (dI m :: mv.map dI) := h
    cases h with
    | cons h t =>
      unfold dI at h
      cases h with
      | lst e h => exact .cons ⟨_, rfl, by rw [e, tk_ints h]⟩ (tk_rowsI t)
theorem tk_rowsB {H : Hp} : ∀ {vs : List V} {mv : List (List Bool)}, TkAll H vs (mv.map dB) → Rows H vs (mv.map vB)
  | _, [], h => by cases h; exact .nil
  | _, m :: mv, h => by
    have h : TkAll H _ (dB m :: mv.map dB) := h
    cases h with
    | cons h t =>
      unfold dB at h
      cases h with
      | lst e h => exact .cons ⟨_, rfl, by rw [e, tk_bools h]⟩ (tk_rowsB t)
theorem MAt.of_tk {H : Hp} {v : V} {M : Mach} (h : Tk H v (dM M)) : MAt H v M := by
  unfold dM at h
  cases h with
  | tup e h =>
    cases h with
    | cons h1 h =>
      cases h with
      | cons h2 h =>
        cases h with
        | cons h3 h =>
          cases h with
          | cons h4 h =>
            cases h
            cases h1
            cases h2 with
            | lst e2 h2 =>
              unfold dB at h3
              cases h3 with
              | lst e3 h3 =>
                cases h4 with
                | lst e4 h4 => exact ⟨_, _, _, _, _, _, rfl, e, e2, tk_rowsI h2, by rw [e3, tk_bools h3], e4, tk_rowsB h4⟩
/-- whether a written machine is one -/
def okB (M : Mach) : Bool := letB M.L && decide (1 ≤ M.moves.length) && decide (M.moves.length ≤ 40) && M.moves.all (fun r => decide (r.length = M.k * M.k) && r.all fun g => decide (g < M.moves.length)) &&
  decide (M.ends.length = M.moves.length) && decide (M.mids.length = M.moves.length) && M.mids.all fun r => decide (r.length = M.k)
theorem ok_of {M : Mach} (h : okB M = true) : M.Ok := by
  unfold okB at h
  simp only [Bool.and_eq_true, decide_eq_true_eq, List.all_eq_true] at h
  obtain ⟨⟨⟨⟨⟨⟨h1, h2⟩, h3⟩, h4⟩, h5⟩, h6⟩, h7⟩ := h
  exact ⟨letOk_of h1, h2, h3, fun r hr => ⟨(h4 r hr).1, fun g hg => (h4 r hr).2 g hg⟩, h5, h6, h7⟩
def mirrors : Mach := ⟨"ab", [[0, 1, 1, 0], [1, 1, 1, 1]], [true, false], [[true, true], [false, false]]⟩
theorem ok_mirrors : mirrors.Ok := ok_of (by decide +kernel)
end Be

/-! Least machines: the mathematics, apart from any program text. -/
namespace Be
/-! ### lists without what came before -/
section
variable {α β : Type} [DecidableEq α] [DecidableEq β]
/-- f, and behind it what of l is not there yet, in order -/
def addN (f l : List α) : List α := l.foldl (fun f x => if x ∈ f then f else f ++ [x]) f
def dd (l : List α) : List α := addN [] l
theorem addN_nil (f : List α) : addN f [] = f := rfl
theorem addN_cons (f : List α) (x : α) (l : List α) : addN f (x :: l) = addN (if x ∈ f then f else f ++ [x]) l := rfl
theorem addN_app (f l r : List α) : addN f (l ++ r) = addN (addN f l) r := by unfold addN; rw [List.foldl_append]
theorem mem_addN : ∀ {l f : List α} {x : α}, x ∈ addN f l ↔ x ∈ f ∨ x ∈ l
  | [], f, x => by rw [addN_nil]; simp
  | a :: l, f, x => by
    rw [addN_cons, mem_addN]
    by_cases h : a ∈ f
    · rw [if_pos h]
      constructor
      · rintro (q | q)
        · exact .inl q
        · exact .inr (List.mem_cons_of_mem _ q)
      · rintro (q | q)
        · exact .inl q
        · rcases List.mem_cons.mp q with rfl | q
          · exact .inl h
          · exact .inr q
    · rw [if_neg h]
      rw [List.mem_append, List.mem_singleton, List.mem_cons, or_assoc]
theorem addN_pre : ∀ (l f : List α), ∃ r, addN f l = f ++ r
  | [], f => ⟨[], by rw [addN_nil, List.append_nil]⟩
  | a :: l, f => by
    rw [addN_cons]
    by_cases h : a ∈ f
    · rw [if_pos h]; exact addN_pre l f
    · rw [if_neg h]
      obtain ⟨r, e⟩ := addN_pre l (f ++ [a])
      exact ⟨a :: r, by rw [e, List.append_assoc]; rfl⟩
theorem addN_nodup : ∀ {l f : List α}, f.Nodup → (addN f l).Nodup
  | [], f, h => h
  | a :: l, f, h => by
    rw [addN_cons]
    by_cases ha : a ∈ f
    · rw [if_pos ha]; exact addN_nodup h
    · rw [if_neg ha]; exact addN_nodup (L2.nd_snoc h ha)
theorem addN_in : ∀ {l f : List α}, (∀ x ∈ l, x ∈ f) → addN f l = f
  | [], f, _ => rfl
  | a :: l, f, h => by
    rw [addN_cons, if_pos (h a (List.mem_cons_self ..))]
    exact addN_in fun x hx => h x (List.mem_cons_of_mem _ hx)
theorem addN_new : ∀ {l f : List α}, (f ++ l).Nodup → addN f l = f ++ l
  | [], f, _ => by rw [addN_nil, List.append_nil]
  | a :: l, f, h => by
    have h2 : (f ++ [a] ++ l).Nodup := by rw [List.append_assoc]; exact h
    have ha : a ∉ f := by
      intro q
      rw [List.nodup_append] at h
      exact h.2.2 a q a (List.mem_cons_self ..) rfl
    rw [addN_cons, if_neg ha, addN_new h2, List.append_assoc]; rfl
theorem dd_nodup (l : List α) : (dd l).Nodup := addN_nodup List.nodup_nil
theorem mem_dd {l : List α} {x : α} : x ∈ dd l ↔ x ∈ l := by unfold dd; rw [mem_addN]; simp
theorem dd_self {l : List α} (h : l.Nodup) : dd l = l := by unfold dd; rw [addN_new (by simpa using h)]; rfl
theorem dd_app (l r : List α) : dd (l ++ r) = addN (dd l) r := addN_app [] l r
theorem dd_map_addN (φ : α → β) : ∀ (l f : List α), dd ((addN f l).map φ) = addN (dd (f.map φ)) (l.map φ)
  | [], f => rfl
  | a :: l, f => by
    rw [addN_cons, List.map_cons, addN_cons]
    by_cases h : a ∈ f
    · rw [if_pos h, if_pos (mem_dd.mpr (List.mem_map.mpr ⟨a, h, rfl⟩)), dd_map_addN φ l f]
    · rw [if_neg h, dd_map_addN φ l, List.map_append, dd_app]
      rfl
theorem dd_take_pre (l : List α) (n : Nat) : ∃ r, dd l = dd (l.take n) ++ r := by
  obtain ⟨r, e⟩ := addN_pre (l.drop n) (dd (l.take n))
  refine ⟨r, ?_⟩
  rw [← e, ← dd_app, List.take_append_drop]
end
/-! ### going -/
def Mach.row (M : Mach) (q : Nat) : List Nat := M.moves.getD q []
def Mach.go1 (M : Mach) (q i : Nat) : Nat := (M.row q).getD i 0
def Mach.go (M : Mach) (q : Nat) (is : List Nat) : Nat := is.foldl M.go1 q
def Mach.obs (M : Mach) (q : Nat) : Bool × List Bool := (M.ends.getD q false, M.mids.getD q [])
/-- all steps are steps of M -/
abbrev Mach.Stp (M : Mach) (is : List Nat) : Prop := ∀ i ∈ is, i < M.k * M.k
theorem Mach.row_len {M : Mach} {Bd : Nat} (ok : M.OkB Bd) {q : Nat} (h : q < M.moves.length) : (M.row q).length = M.k * M.k ∧ (∀ g ∈ M.row q, g < M.moves.length) ∧ M.moves[q]? = some (M.row q) := by
  have e : M.row q = M.moves[q]'h := by unfold Mach.row; rw [List.getD_eq_getElem?_getD, List.getElem?_eq_getElem h, Option.getD_some]
  rw [e]
  exact ⟨(ok.rows _ (List.getElem_mem h)).1, (ok.rows _ (List.getElem_mem h)).2, List.getElem?_eq_getElem h⟩
theorem Mach.go1_row {M : Mach} {Bd : Nat} (ok : M.OkB Bd) {q i : Nat} (h : q < M.moves.length) (hi : i < M.k * M.k) : (M.row q)[i]? = some (M.go1 q i) := by
  have hl := (Mach.row_len ok h).1
  unfold Mach.go1
  rw [List.getD_eq_getElem?_getD, List.getElem?_eq_getElem (by rw [hl]; exact hi), Option.getD_some]
theorem Mach.go1_lt {M : Mach} {Bd : Nat} (ok : M.OkB Bd) {q i : Nat} (h : q < M.moves.length) (hi : i < M.k * M.k) : M.go1 q i < M.moves.length :=
  (Mach.row_len ok h).2.1 _ (List.mem_of_getElem? (Mach.go1_row ok h hi))
theorem Mach.go_lt {M : Mach} {Bd : Nat} (ok : M.OkB Bd) : ∀ {is : List Nat} {q : Nat}, q < M.moves.length → M.Stp is → M.go q is < M.moves.length
  | [], _, h, _ => h
  | i :: is, q, h, hs => Mach.go_lt ok (is := is) (Mach.go1_lt ok h (hs i (List.mem_cons_self ..))) fun j hj => hs j (List.mem_cons_of_mem _ hj)
/-- behind p of M and q of N the same is told -/
def Eqs (M N : Mach) (p q : Nat) : Prop := ∀ is, M.Stp is → M.obs (M.go p is) = N.obs (N.go q is)
theorem Eqs.refl (M : Mach) (p : Nat) : Eqs M M p p := fun _ _ => rfl
theorem Eqs.step {M N : Mach} {p q i : Nat} (h : Eqs M N p q) (hi : i < M.k * M.k) : Eqs M N (M.go1 p i) (N.go1 q i) := fun is hs => h (i :: is) fun j hj => by
  rcases List.mem_cons.mp hj with rfl | hj
  · exact hi
  · exact hs j hj
theorem Eqs.obs {M N : Mach} {p q : Nat} (h : Eqs M N p q) : M.obs p = N.obs q := h [] fun _ h => by cases h
theorem Eqs.symm {M N : Mach} (e : M.k = N.k) {p q : Nat} (h : Eqs M N p q) : Eqs N M q p := fun is hs => (h is (by intro i hi; rw [e]; exact hs i hi)).symm
theorem Eqs.trans {M N O : Mach} (e : M.k = N.k) {p q r : Nat} (h : Eqs M N p q) (h' : Eqs N O q r) : Eqs M O p r := fun is hs => (h is hs).trans (h' is (by intro i hi; rw [← e]; exact hs i hi))
/-! ### the states as they are first come by -/
inductive Run (M : Mach) : Nat → List Nat → List Nat → Prop
  | stop {t : Nat} {f : List Nat} : f.length ≤ t → Run M t f f
  | step {t : Nat} {f r : List Nat} {s : Nat} : f[t]? = some s → Run M (t + 1) (addN f (M.row s)) r → Run M t f r
theorem Run.pre {M : Mach} {t : Nat} {f r : List Nat} (h : Run M t f r) : ∃ z, r = f ++ z := by
  induction h with
  | stop _ => exact ⟨[], by rw [List.append_nil]⟩
  | step _ _ ih =>
    obtain ⟨z, e⟩ := ih
    obtain ⟨y, e'⟩ := addN_pre (M.row _) _
    exact ⟨y ++ z, by rw [e, e', List.append_assoc]⟩
/-- what is come by is closed, without doubles, within the states -/
theorem Run.inv {M : Mach} {Bd : Nat} (ok : M.OkB Bd) {t : Nat} {f r : List Nat} (h : Run M t f r) (nd : f.Nodup) (lt : ∀ s ∈ f, s < M.moves.length) (cl : ∀ j s, j < t → f[j]? = some s → ∀ g ∈ M.row s, g ∈ f) :
    r.Nodup ∧ (∀ s ∈ r, s < M.moves.length) ∧ ∀ s ∈ r, ∀ g ∈ M.row s, g ∈ r := by
  induction h with
  | stop h =>
    refine ⟨nd, lt, fun s hs => ?_⟩
    obtain ⟨j, hj⟩ := List.getElem?_of_mem hs
    have := (List.getElem?_eq_some_iff.mp hj).1
    exact cl j s (by omega) hj
  | @step t f r s e _ ih =>
    have hs : s < M.moves.length := lt s (List.mem_of_getElem? e)
    obtain ⟨z, ez⟩ := addN_pre (M.row s) f
    refine ih (addN_nodup nd) (fun x hx => ?_) (fun j x hj hx g hg => ?_)
    · rcases mem_addN.mp hx with q | q
      · exact lt x q
      · exact (Mach.row_len ok hs).2.1 x q
    · have ht : t < f.length := (List.getElem?_eq_some_iff.mp e).1
      rw [ez, List.getElem?_append_left (by omega)] at hx
      by_cases hjt : j < t
      · exact mem_addN.mpr (.inl (cl j x hjt hx g hg))
      · have : j = t := by omega
        subst this
        rw [e] at hx; cases hx
        exact mem_addN.mpr (.inr hg)
/-- an image of a machine is come by in the image's order -/
theorem Run.image {M N : Mach} {φ : Nat → Nat} {t : Nat} {f r : List Nat} (h : Run M t f r) (hφ : ∀ s ∈ r, N.row (φ s) = (M.row s).map φ)
    (cl : ∀ j s, j < t → f[j]? = some s → ∀ g ∈ M.row s, g ∈ f) : Run N (dd ((f.take t).map φ)).length (dd (f.map φ)) (dd (r.map φ)) := by
  induction h with
  | @stop t f h =>
    refine .stop ?_
    rw [List.take_of_length_le h]
    exact Nat.le_refl _
  | @step t f r s e hr ih =>
    have ht : t < f.length := (List.getElem?_eq_some_iff.mp e).1
    have et : f.take (t + 1) = f.take t ++ [s] := by rw [List.take_succ_eq_append_getElem ht, (List.getElem?_eq_some_iff.mp e).2]
    obtain ⟨z, ez⟩ := addN_pre (M.row s) f
    have etz : (addN f (M.row s)).take (t + 1) = f.take t ++ [s] := by rw [ez, List.take_append_of_le_length (by omega), et]
    obtain ⟨y, ey⟩ := Run.pre hr
    have hsr : s ∈ r := by rw [ey]; exact List.mem_append_left _ (mem_addN.mpr (.inl (List.mem_of_getElem? e)))
    have cl' : ∀ j x, j < t + 1 → (addN f (M.row s))[j]? = some x → ∀ g ∈ M.row x, g ∈ addN f (M.row s) := fun j x hj hx g hg => by
      rw [ez, List.getElem?_append_left (by omega)] at hx
      by_cases hjt : j < t
      · exact mem_addN.mpr (.inl (cl j x hjt hx g hg))
      · have : j = t := by omega
        subst this
        rw [e] at hx; cases hx
        exact mem_addN.mpr (.inr hg)
    have IH := ih hφ cl'
    rw [etz, List.map_append, dd_app, dd_map_addN] at IH
    have hrow := hφ s hsr
    by_cases hold : φ s ∈ (f.take t).map φ
    · -- the class was done before
      have e1 : addN (dd ((f.take t).map φ)) ([s].map φ) = dd ((f.take t).map φ) := addN_in fun x hx => by
        have : x = φ s := by simpa using hx
        rw [this]; exact mem_dd.mpr hold
      have e2 : addN (dd (f.map φ)) ((M.row s).map φ) = dd (f.map φ) := addN_in fun x hx => by
        obtain ⟨s', hs', es'⟩ := List.mem_map.mp hold
        obtain ⟨j, hj⟩ := List.getElem?_of_mem hs'
        have hj1 : j < t := by
          have := (List.getElem?_eq_some_iff.mp hj).1
          rw [List.length_take] at this; omega
        rw [List.getElem?_take_of_lt hj1] at hj
        have hs'r : s' ∈ r := by rw [ey]; exact List.mem_append_left _ (mem_addN.mpr (.inl (List.mem_of_getElem? hj)))
        have hx' : x ∈ (M.row s').map φ := by rw [← hφ s' hs'r, es', hrow]; exact hx
        obtain ⟨g, hg, rfl⟩ := List.mem_map.mp hx'
        exact mem_dd.mpr (List.mem_map.mpr ⟨g, cl j s' hj1 hj g hg, rfl⟩)
      rw [e1, e2] at IH
      exact IH
    · -- a new class
      have e1 : addN (dd ((f.take t).map φ)) ([s].map φ) = dd ((f.take t).map φ) ++ [φ s] := by
        show addN _ [φ s] = _
        rw [addN_cons, if_neg (fun q => hold (mem_dd.mp q))]; rfl
      rw [e1, List.length_append, List.length_singleton] at IH
      have hat : (dd (f.map φ))[(dd ((f.take t).map φ)).length]? = some (φ s) := by
        obtain ⟨u, eu⟩ := dd_take_pre (f.map φ) (t + 1)
        rw [← List.map_take, et, List.map_append, dd_app, e1] at eu
        rw [eu, List.append_assoc, List.getElem?_append_right (Nat.le_refl _), Nat.sub_self]
        rfl
      refine .step hat ?_
      rw [hrow]
      exact IH
end Be

namespace Be
section
variable {α β : Type} [DecidableEq α] [DecidableEq β]
theorem dd_map_dd (φ : α → β) (l : List α) : dd ((dd l).map φ) = dd (l.map φ) := by
  show dd ((addN [] l).map φ) = _
  rw [dd_map_addN]; rfl
theorem addN_len : ∀ {l f : List α}, (addN f l).length ≤ f.length + l.length
  | [], f => by rw [addN_nil]; simp
  | a :: l, f => by
    rw [addN_cons, List.length_cons]
    by_cases h : a ∈ f
    · rw [if_pos h]; have := addN_len (l := l) (f := f); omega
    · rw [if_neg h]
      have := addN_len (l := l) (f := f ++ [a])
      rw [List.length_append, List.length_singleton] at this; omega
theorem idx_inj {l : List α} {a b : α} (ha : a ∈ l) (hb : b ∈ l) (h : l.idxOf a = l.idxOf b) : a = b := by
  have h1 : l[l.idxOf a]'(List.idxOf_lt_length_of_mem ha) = a := List.getElem_idxOf (List.idxOf_lt_length_of_mem ha)
  have h2 : l[l.idxOf b]'(List.idxOf_lt_length_of_mem hb) = b := List.getElem_idxOf (List.idxOf_lt_length_of_mem hb)
  rw [← h1, ← h2]
  congr 1
end
/-! ### groups, counted as they first come -/
def gnum {α : Type} [DecidableEq α] (ord : List Nat) (mark : Nat → α) (s : Nat) : Nat := (dd (ord.map mark)).idxOf (mark s)
theorem gnum_iff {α : Type} [DecidableEq α] {ord : List Nat} {mark : Nat → α} {p q : Nat} (hp : p ∈ ord) (hq : q ∈ ord) : gnum ord mark p = gnum ord mark q ↔ mark p = mark q := by
  constructor
  · exact idx_inj (mem_dd.mpr (List.mem_map.mpr ⟨p, hp, rfl⟩)) (mem_dd.mpr (List.mem_map.mpr ⟨q, hq, rfl⟩))
  · intro h; unfold gnum; rw [h]
/-- a coarser count is no greater; where it is the same the groups are the same -/
theorem coarser {ord : List Nat} {g h : Nat → Nat} (fin : ∀ p ∈ ord, ∀ q ∈ ord, g p = g q → h p = h q) : ∃ φ : Nat → Nat, (∀ s ∈ ord, φ (g s) = h s) ∧ dd (ord.map h) = dd ((dd (ord.map g)).map φ) := by
  refine ⟨fun v => h ((ord.find? fun s => g s = v).getD 0), fun s hs => ?_, ?_⟩
  · show h ((ord.find? fun s' => g s' = g s).getD 0) = h s
    cases e : ord.find? fun s' => g s' = g s with
    | none =>
      have := List.find?_eq_none.mp e s hs
      simp at this
    | some s' =>
      show h s' = h s
      have h1 := List.find?_some e
      exact fin s' (List.mem_of_find?_eq_some e) s hs (by simpa using h1)
  · rw [dd_map_dd, List.map_map]
    congr 1
    refine List.map_congr_left fun s hs => ?_
    show h s = h ((ord.find? fun s' => g s' = g s).getD 0)
    cases e : ord.find? fun s' => g s' = g s with
    | none =>
      have := List.find?_eq_none.mp e s hs
      simp at this
    | some s' =>
      show h s = h s'
      have h1 := List.find?_some e
      exact (fin s' (List.mem_of_find?_eq_some e) s hs (by simpa using h1)).symm
/-! ### refining -/
def mark1 (M : Mach) (g : Nat → Nat) (s : Nat) : Nat × List Nat := (g s, (M.row s).map g)
def G (M : Mach) (ord : List Nat) : Nat → Nat → Nat
  | 0 => gnum ord M.obs
  | n + 1 => gnum ord (mark1 M (G M ord n))
def cnt (ord : List Nat) (g : Nat → Nat) : Nat := (dd (ord.map g)).length
theorem G_eqs {M : Mach} {Bd : Nat} (ok : M.OkB Bd) {ord : List Nat} (cl : ∀ s ∈ ord, ∀ g ∈ M.row s, g ∈ ord) (lt : ∀ s ∈ ord, s < M.moves.length) : ∀ {n p q : Nat}, p ∈ ord → q ∈ ord → Eqs M M p q → G M ord n p = G M ord n q
  | 0, p, q, hp, hq, h => (gnum_iff hp hq).mpr h.obs
  | n + 1, p, q, hp, hq, h => by
    refine (gnum_iff hp hq).mpr ?_
    unfold mark1
    rw [G_eqs ok cl lt hp hq h]
    congr 1
    apply List.ext_getElem?
    intro i
    rw [List.getElem?_map, List.getElem?_map]
    have lp := (Mach.row_len ok (lt p hp)).1
    have lq := (Mach.row_len ok (lt q hq)).1
    by_cases hi : i < M.k * M.k
    · rw [Mach.go1_row ok (lt p hp) hi, Mach.go1_row ok (lt q hq) hi]
      show some (G M ord n _) = some (G M ord n _)
      congr 1
      exact G_eqs ok cl lt (cl p hp _ (List.mem_of_getElem? (Mach.go1_row ok (lt p hp) hi))) (cl q hq _ (List.mem_of_getElem? (Mach.go1_row ok (lt q hq) hi))) (h.step hi)
    · rw [List.getElem?_eq_none (by omega), List.getElem?_eq_none (by omega)]
/-- groups that hold under each step -/
structure Stable (M : Mach) (ord : List Nat) (g : Nat → Nat) : Prop where
  obs : ∀ p ∈ ord, ∀ q ∈ ord, g p = g q → M.obs p = M.obs q
  row : ∀ p ∈ ord, ∀ q ∈ ord, g p = g q → (M.row p).map g = (M.row q).map g
  num : ∃ c, dd (ord.map g) = List.range c
  eqs : ∀ p ∈ ord, ∀ q ∈ ord, Eqs M M p q → g p = g q
/-! ### the first of each group -/
def firsts (g : Nat → Nat) (ord : List Nat) : List Nat := ord.foldl (fun fs s => if g s = fs.length then fs ++ [s] else fs) []
theorem firsts_snoc (g : Nat → Nat) (ord : List Nat) (s : Nat) : firsts g (ord ++ [s]) = if g s = (firsts g ord).length then firsts g ord ++ [s] else firsts g ord := by
  unfold firsts; rw [List.foldl_append]; rfl
theorem firsts_spec {g : Nat → Nat} : ∀ (n : Nat) {ord : List Nat} {c : Nat}, ord.length = n → dd (ord.map g) = List.range c → (firsts g ord).map g = List.range c ∧ ∀ s ∈ firsts g ord, s ∈ ord
  | 0, ord, c, hn, h => by
    have : ord = [] := List.length_eq_zero_iff.mp hn
    subst this
    have h : ([] : List Nat) = List.range c := h
    exact ⟨h, fun s hs => by cases hs⟩
  | n + 1, ord, c, hn, h => by
    have hne : ord ≠ [] := by intro e; rw [e] at hn; cases hn
    have ho := (List.dropLast_concat_getLast hne).symm
    generalize ord.dropLast = o at ho
    generalize ord.getLast hne = s at ho
    subst ho
    have hol : o.length = n := by rw [List.length_append, List.length_singleton] at hn; omega
    rw [List.map_append, dd_app] at h
    have h : addN (dd (o.map g)) [g s] = List.range c := h
    rw [addN_cons, addN_nil] at h
    by_cases hin : g s ∈ dd (o.map g)
    · rw [if_pos hin] at h
      obtain ⟨h1, h2⟩ := firsts_spec n hol h
      have hlen : (firsts g o).length = c := by have := congrArg List.length h1; simpa using this
      have hlt : g s < c := by rw [h] at hin; exact List.mem_range.mp hin
      rw [firsts_snoc, if_neg (by omega)]
      exact ⟨h1, fun x hx => List.mem_append_left _ (h2 x hx)⟩
    · rw [if_neg hin] at h
      have hc : c = (dd (o.map g)).length + 1 := by have := congrArg List.length h; simpa using this.symm
      subst hc
      rw [List.range_succ] at h
      have h3 := List.append_inj h (by rw [List.length_range])
      obtain ⟨h1, h2⟩ := firsts_spec n hol h3.1
      have hlen : (firsts g o).length = (dd (o.map g)).length := by have := congrArg List.length h1; simpa using this
      have hgs : g s = (dd (o.map g)).length := by simpa using h3.2
      rw [firsts_snoc, if_pos (by omega), List.map_append, h1, List.range_succ]
      refine ⟨by rw [List.map_cons, hgs]; rfl, fun x hx => ?_⟩
      rcases List.mem_append.mp hx with q | q
      · exact List.mem_append_left _ (h2 x q)
      · exact List.mem_append_right _ q
end Be

namespace Be
/-- what is told as the least machine, by an order and groups -/
def lmach (M : Mach) (g : Nat → Nat) (ord : List Nat) : Mach :=
  ⟨M.letters, (firsts g ord).map fun s => (M.row s).map g, (firsts g ord).map fun s => M.ends.getD s false, (firsts g ord).map fun s => M.mids.getD s []⟩
theorem run_facts {M : Mach} {Bd : Nat} (ok : M.OkB Bd) {ord : List Nat} (h : Run M 0 [0] ord) : ord.Nodup ∧ (∀ s ∈ ord, s < M.moves.length) ∧ (∀ s ∈ ord, ∀ g ∈ M.row s, g ∈ ord) ∧ 0 ∈ ord ∧ ord[0]? = some 0 := by
  obtain ⟨h1, h2, h3⟩ := Run.inv ok h (by simp) (fun s hs => by rw [List.mem_singleton.mp hs]; exact ok.n1) (fun j s hj => by omega)
  obtain ⟨z, e⟩ := Run.pre h
  exact ⟨h1, h2, h3, by rw [e]; simp, by rw [e]; rfl⟩
theorem dd_head {l : List Nat} {x : Nat} (h : l[0]? = some x) : (dd l)[0]? = some x := by
  cases l with
  | nil => simp at h
  | cons a r =>
    simp at h
    subst h
    show (addN [] (a :: r))[0]? = _
    rw [addN_cons, if_neg (by simp)]
    obtain ⟨z, e⟩ := addN_pre r [a]
    show (addN [a] r)[0]? = _
    rw [e]; rfl
structure LeastBy (M : Mach) (g : Nat → Nat) (ord : List Nat) : Prop where
  ok : M.OkB 2000
  few : (firsts g ord).length ≤ 40
  run : Run M 0 [0] ord
  st : Stable M ord g
section
variable {M : Mach} {g : Nat → Nat} {ord : List Nat}
theorem LeastBy.num (L : LeastBy M g ord) : dd (ord.map g) = List.range (firsts g ord).length ∧ (firsts g ord).map g = List.range (firsts g ord).length ∧ ∀ s ∈ firsts g ord, s ∈ ord := by
  obtain ⟨c, hc⟩ := L.st.num
  obtain ⟨h1, h2⟩ := firsts_spec _ rfl hc
  have hl : (firsts g ord).length = c := by have := congrArg List.length h1; simpa using this
  rw [hl]
  exact ⟨hc, h1, h2⟩
theorem LeastBy.g0 (L : LeastBy M g ord) : g 0 = 0 := by
  obtain ⟨h1, _, _⟩ := L.num
  obtain ⟨_, _, _, h0, hh⟩ := run_facts L.ok L.run
  have := dd_head (l := ord.map g) (x := g 0) (by rw [List.getElem?_map, hh]; rfl)
  rw [h1] at this
  cases hc : (firsts g ord).length with
  | zero => rw [hc] at this; simp at this
  | succ n => rw [hc] at this; rw [List.getElem?_range (by omega)] at this; exact (Option.some.inj this).symm
theorem LeastBy.lt (L : LeastBy M g ord) {s : Nat} (hs : s ∈ ord) : g s < (firsts g ord).length := by
  have : g s ∈ dd (ord.map g) := mem_dd.mpr (List.mem_map.mpr ⟨s, hs, rfl⟩)
  rw [L.num.1] at this
  exact List.mem_range.mp this
/-- the first state of a state's group -/
theorem LeastBy.rep (L : LeastBy M g ord) {s : Nat} (hs : s ∈ ord) : ∃ t, (firsts g ord)[g s]? = some t ∧ t ∈ ord ∧ g t = g s := by
  have hl := L.lt hs
  refine ⟨(firsts g ord)[g s], List.getElem?_eq_getElem hl, L.num.2.2 _ (List.getElem_mem hl), ?_⟩
  have e := congrArg (fun l => l[g s]?) L.num.2.1
  simp only [List.getElem?_map, List.getElem?_eq_getElem hl, Option.map_some, List.getElem?_range hl] at e
  exact Option.some.inj e
theorem LeastBy.row (L : LeastBy M g ord) {s : Nat} (hs : s ∈ ord) : (lmach M g ord).row (g s) = (M.row s).map g := by
  obtain ⟨t, e, ht, eg⟩ := L.rep hs
  unfold Mach.row lmach
  rw [List.getD_eq_getElem?_getD, List.getElem?_map, e]
  exact L.st.row t ht s hs eg
theorem LeastBy.obs (L : LeastBy M g ord) {s : Nat} (hs : s ∈ ord) : (lmach M g ord).obs (g s) = M.obs s := by
  obtain ⟨t, e, ht, eg⟩ := L.rep hs
  rw [← L.st.obs t ht s hs eg]
  unfold Mach.obs lmach
  rw [List.getD_eq_getElem?_getD, List.getD_eq_getElem?_getD, List.getElem?_map, List.getElem?_map, e]
  rfl
theorem LeastBy.pos (L : LeastBy M g ord) : 1 ≤ (firsts g ord).length := by
  have := L.lt (run_facts L.ok L.run).2.2.2.1
  omega
theorem nodup_le {l : List Nat} {n : Nat} (nd : l.Nodup) (h : ∀ x ∈ l, x < n) : l.length ≤ n := by
  have : (dd l).length = l.length := by rw [dd_self nd]
  have h2 : dd (List.range n ++ l) = List.range n := by
    rw [dd_app, dd_self List.nodup_range]
    exact addN_in fun x hx => List.mem_range.mpr (h x hx)
  have h3 := List.Nodup.length_le_of_subset nd (l₂ := List.range n) fun x hx => List.mem_range.mpr (h x hx)
  rwa [List.length_range] at h3
theorem LeastBy.lok (L : LeastBy M g ord) : (lmach M g ord).Ok := by
  obtain ⟨nd, lt, cl, h0, hh⟩ := run_facts L.ok L.run
  have hle : (firsts g ord).length ≤ ord.length := by
    have h1 := congrArg List.length L.num.1
    have h2 := addN_len (l := ord.map g) (f := ([] : List Nat))
    rw [List.length_nil, Nat.zero_add, List.length_map] at h2
    rw [List.length_range] at h1
    have h3 : (dd (ord.map g)).length ≤ ord.length := h2
    omega
  have hol : ord.length ≤ M.moves.length := nodup_le nd lt
  have hn : (lmach M g ord).moves.length = (firsts g ord).length := by show ((firsts g ord).map _).length = _; rw [List.length_map]
  refine ⟨L.ok.let_, ?_, ?_, ?_, ?_, ?_, ?_⟩
  · rw [hn]; exact L.pos
  · rw [hn]; exact L.few
  · intro r hr
    rw [hn]
    obtain ⟨s, hs, rfl⟩ := List.mem_map.mp (show r ∈ (firsts g ord).map fun s => (M.row s).map g from hr)
    have hso := L.num.2.2 s hs
    refine ⟨by rw [List.length_map]; exact (Mach.row_len L.ok (lt s hso)).1, fun x hx => ?_⟩
    obtain ⟨y, hy, rfl⟩ := List.mem_map.mp hx
    exact L.lt (cl s hso y hy)
  · rw [hn]; show ((firsts g ord).map _).length = _; rw [List.length_map]
  · rw [hn]; show ((firsts g ord).map _).length = _; rw [List.length_map]
  · intro r hr
    obtain ⟨s, hs, rfl⟩ := List.mem_map.mp (show r ∈ (firsts g ord).map fun s => M.mids.getD s [] from hr)
    have hlt : s < M.mids.length := by rw [L.ok.mids]; exact lt s (L.num.2.2 s hs)
    have e : M.mids.getD s [] = M.mids[s]'hlt := by rw [List.getD_eq_getElem?_getD, List.getElem?_eq_getElem hlt, Option.getD_some]
    rw [e]
    exact L.ok.mrows _ (List.getElem_mem hlt)
theorem LeastBy.lrun (L : LeastBy M g ord) : Run (lmach M g ord) 0 [0] (List.range (lmach M g ord).moves.length) := by
  have h := Run.image (N := lmach M g ord) (φ := g) L.run (fun s hs => L.row hs) (fun j s hj => by omega)
  have hn : (lmach M g ord).moves.length = (firsts g ord).length := by show ((firsts g ord).map _).length = _; rw [List.length_map]
  rw [L.num.1, ← hn] at h
  have e : dd ([0].map g) = [0] := by show dd [g 0] = _; rw [L.g0]; rfl
  rw [e] at h
  exact h
theorem LeastBy.go (L : LeastBy M g ord) : ∀ {is : List Nat} {s : Nat}, s ∈ ord → M.Stp is → (lmach M g ord).go (g s) is = g (M.go s is) ∧ M.go s is ∈ ord
  | [], s, hs, _ => ⟨rfl, hs⟩
  | i :: is, s, hs, h => by
    obtain ⟨nd, lt, cl, h0, hh⟩ := run_facts L.ok L.run
    have hi := h i (List.mem_cons_self ..)
    have r1 := Mach.go1_row L.ok (lt s hs) hi
    have hm : M.go1 s i ∈ ord := cl s hs _ (List.mem_of_getElem? r1)
    have e : (lmach M g ord).go1 (g s) i = g (M.go1 s i) := by
      unfold Mach.go1
      rw [L.row hs, List.getD_eq_getElem?_getD, List.getElem?_map, r1]; rfl
    show (lmach M g ord).go ((lmach M g ord).go1 (g s) i) is = g (M.go (M.go1 s i) is) ∧ M.go (M.go1 s i) is ∈ ord
    rw [e]
    exact LeastBy.go L hm fun j hj => h j (List.mem_cons_of_mem _ hj)
theorem LeastBy.eqs (L : LeastBy M g ord) {s : Nat} (hs : s ∈ ord) : Eqs M (lmach M g ord) s (g s) := fun is h => by
  obtain ⟨e, m⟩ := L.go hs h
  rw [e, L.obs m]
theorem LeastBy.lmin (L : LeastBy M g ord) {i j : Nat} (hi : i < (lmach M g ord).moves.length) (hj : j < (lmach M g ord).moves.length) (h : Eqs (lmach M g ord) (lmach M g ord) i j) : i = j := by
  have hn : (lmach M g ord).moves.length = (firsts g ord).length := by show ((firsts g ord).map _).length = _; rw [List.length_map]
  rw [hn] at hi hj
  have gi : ∀ {i : Nat} (hi : i < (firsts g ord).length), g ((firsts g ord)[i]'hi) = i := fun {i} hi => by
    have e := congrArg (fun l => l[i]?) L.num.2.1
    simp only [List.getElem?_map, List.getElem?_eq_getElem hi, Option.map_some, List.getElem?_range hi] at e
    exact Option.some.inj e
  have si := L.num.2.2 _ (List.getElem_mem hi)
  have sj := L.num.2.2 _ (List.getElem_mem hj)
  have e1 := L.eqs si
  have e2 := L.eqs sj
  rw [gi hi] at e1
  rw [gi hj] at e2
  have hk : M.k = (lmach M g ord).k := rfl
  have e3 : Eqs M M _ _ := Eqs.trans hk (Eqs.trans hk e1 h) (Eqs.symm hk e2)
  have := L.st.eqs _ si _ sj e3
  rw [gi hi, gi hj] at this
  exact this
end
/-- a least machine, its states counted as they are first come by -/
structure IsLeast (N : Mach) : Prop where
  ok : N.Ok
  run : Run N 0 [0] (List.range N.moves.length)
  min : ∀ i j, i < N.moves.length → j < N.moves.length → Eqs N N i j → i = j
theorem LeastBy.isLeast {M : Mach} {g : Nat → Nat} {ord : List Nat} (L : LeastBy M g ord) : IsLeast (lmach M g ord) := ⟨L.lok, L.lrun, fun i j hi hj h => L.lmin hi hj h⟩
theorem Run.reach {M : Mach} {Bd : Nat} (ok : M.OkB Bd) {t : Nat} {f r : List Nat} (h : Run M t f r) : (∀ s ∈ f, s < M.moves.length) → (∀ s ∈ f, ∃ is, M.Stp is ∧ M.go 0 is = s) → ∀ s ∈ r, ∃ is, M.Stp is ∧ M.go 0 is = s := by
  induction h with
  | stop _ => intro _ h; exact h
  | @step t f r s e _ ih =>
    intro lt h
    have hs := List.mem_of_getElem? e
    refine ih (fun x hx => ?_) (fun x hx => ?_)
    · rcases mem_addN.mp hx with q | q
      · exact lt x q
      · exact (Mach.row_len ok (lt s hs)).2.1 x q
    · rcases mem_addN.mp hx with q | q
      · exact h x q
      · obtain ⟨is, h1, h2⟩ := h s hs
        obtain ⟨i, hi⟩ := List.getElem?_of_mem q
        have hil : i < M.k * M.k := by
          have := (List.getElem?_eq_some_iff.mp hi).1
          rw [(Mach.row_len ok (lt s hs)).1] at this; exact this
        refine ⟨is ++ [i], fun j hj => ?_, ?_⟩
        · rcases List.mem_append.mp hj with q | q
          · exact h1 j q
          · rw [List.mem_singleton.mp q]; exact hil
        · unfold Mach.go at h2 ⊢
          rw [List.foldl_append, h2]
          have := Mach.go1_row ok (lt s hs) hil
          rw [hi] at this
          exact (Option.some.inj this).symm
theorem Eqs.go {M N : Mach} {p q : Nat} (h : Eqs M N p q) : ∀ {is : List Nat}, M.Stp is → Eqs M N (M.go p is) (N.go q is) := fun {is} hs js hj => by
  have := h (is ++ js) fun i hi => by
    rcases List.mem_append.mp hi with q | q
    · exact hs i q
    · exact hj i q
  unfold Mach.go at this ⊢
  rw [List.foldl_append, List.foldl_append] at this
  exact this
end Be

/-! Sets of whole numbers; a def's body with its code known. -/
namespace L2
open PySem PySem.Spec PyProof.Rows
section
variable {X : Cx}
theorem isInt_self (P : Program) (w : World) (i : Int) (t : Tok) : (PySem.intKind P w).is i (.int i t) = true := by
  show Value.isInt i (.int i t) = true
  simp [Value.isInt]
end
end L2

/-! Keys that are pairs: a truth or a number, and a tuple of such. -/
namespace PySem
open Sem (wp)
section
variable {prog : Program} {w : World} {A : Around} {E : Value → Shared → Prop} {s : Shared}
end
section
variable {prog : Program} {w : World} {K : Type} [DecidableEq K] (knd : KeyKind prog w K)
def IsPairKey (h : Heap) (k : K × List K) (a : Addr) : Prop := ∃ o b n v, h.get? a = some o ∧ o.cls = .type "tuple" ∧ o.data = .seq #[v, .ref b] n ∧ knd.is k.1 v = true ∧ IsTupleKey knd h k.2 b
variable {knd}
theorem IsPairKey.typeIs {s : Shared} {k : K × List K} {a : Addr} (x : IsPairKey knd s.heap k a) : s.TypeIs (.ref a) "tuple" := let ⟨o, _, _, _, ho, hc, _⟩ := x; ⟨o, ho, hc⟩
theorem IsPairKey.inj {h : Heap} {a : Addr} {x y : K × List K} (hx : IsPairKey knd h x a) (hy : IsPairKey knd h y a) : x = y := by
  obtain ⟨o, b, n, v, ho, _, hd, hi, ht⟩ := hx
  obtain ⟨o', b', n', v', ho', _, hd', hi', ht'⟩ := hy
  obtain rfl : o = o' := Option.some.inj (ho.symm.trans ho')
  rw [hd] at hd'
  injection hd' with h1 _
  have e : [v, Value.ref b] = [v', Value.ref b'] := congrArg Array.toList h1
  injection e with e1 e2
  injection e2 with e2 _
  injection e2 with e2
  subst e1; subst e2
  obtain ⟨x1, x2⟩ := x
  obtain ⟨y1, y2⟩ := y
  have e1 : x1 = y1 := knd.inj _ _ _ hi hi'
  have e2 : x2 = y2 := ht.inj ht'
  subst e1; subst e2; rfl
theorem IsPairKey.keeps {h h' : Heap} {k : K × List K} {a d : Addr} {o : Obj} {es ep} (x : IsPairKey knd h k a) (ho : h.get? d = some o) (hd : o.data = .dict es ep) (hs : Heap.SameBut d h h') : IsPairKey knd h' k a := by
  obtain ⟨o', b, n, v, ho', hc, hd', hi, ht⟩ := x
  have hne : a ≠ d := by
    rintro rfl
    obtain rfl : o' = o := Option.some.inj (ho'.symm.trans ho)
    rw [hd] at hd'; exact nomatch hd'
  exact ⟨o', b, n, v, (hs.2 a hne).trans ho', hc, hd', hi, ht.keeps ho hd hs⟩
variable {A : Around} {E : Value → Shared → Prop} {s : Shared}
theorem in1_units (A : Around) : A.in1.units = A.units + 1 := rfl
end
end PySem

/-! Pairs as keys of a dict: the kind, and setdefault. -/
namespace PySem
open Sem (wp)
section
variable {prog : Program} {w : World} {K : Type} [DecidableEq K] {knd : KeyKind prog w K} {A : Around} {E : Value → Shared → Prop} {s : Shared}
end
section
variable {prog : Program} {w : World} {K : Type} [DecidableEq K] {knd : HeapKind prog w K} {A : Around} {E : Value → Shared → Prop} {s : Shared}
end
end PySem

/-! {k: v for x in xs if ..}: a new dict whose keys are ints and texts. -/
namespace L2
open PySem PySem.Spec PyProof.Rows
section
variable {X : Cx} {pins : List (Addr × Obj)} {σ : St} {H : Hp} {s : Shared}
end
section
variable {X : Cx}
end
end L2

/-! A dict whose keys are pairs (a value, a tuple of values): {}, len, setdefault; max(d.values()). -/
namespace PySem
open Sem (wp)
section
variable {prog : Program} {w : World} {K : Type} [DecidableEq K] {knd : HeapKind prog w K} {A : Around} {E : Value → Shared → Prop} {s : Shared}
end
end PySem
namespace L2
open PySem PySem.Spec PyProof.Rows
theorem pairedApp {α β : Type} {F : α → β → Prop} : ∀ {l₁ : List α} {m₁ : List β} {l₂ : List α} {m₂ : List β}, Paired F l₁ m₁ → Paired F l₂ m₂ → Paired F (l₁ ++ l₂) (m₁ ++ m₂)
  | _, _, _, _, .nil, r => r
  | _, _, _, _, .cons h t, r => .cons h (pairedApp t r)
/-- a kind of plain values, as they are read -/
structure Knd (P : Program) (w : World) (K : Type) [DecidableEq K] where
  knd : KeyKind P w K
  toV : K → V
  is : ∀ {k u}, RelV (toV k) u → knd.is k u = true
def kndI (P : Program) (w : World) : Knd P w Int := ⟨PySem.intKind P w, V.int, fun {k u} h => by
  obtain ⟨t, e⟩ := (show ∃ t, u = Value.int k t from h)
  subst e
  exact isInt_self P w k t⟩
/-- a key: a tuple of a value and a tuple -/
def KeyAt {K : Type} (toV : K → V) (H : Hp) (k : K × List K) (b : Addr) : Prop := ∃ t, H b = some (.tup [toV k.1, .ref t]) ∧ H t = some (.tup (k.2.map toV))
abbrev PEnt (K : Type) := (K × List K) × Addr × V
section
variable {P : Program} {w : World} {K : Type} [DecidableEq K] (D : Knd P w K)
variable {D}
/-- what stands under a key -/
def pAt (xs : List (PEnt K)) (k : K × List K) : Option V := (xs.find? fun x => decide (x.1 = k)).map (·.2.2)
end
section
variable {X : Cx} {K : Type} [DecidableEq K]
end
/-! ### max(d.values()) -/
section
variable {X : Cx}
end
end L2

namespace Be
open PySem L2
section
variable {P : Program} {w : World} {K : PySem.W.Frag} {mg : Str → Option Value} {base : Heap}
/-! ### come_by -/
end
end Be

namespace PySem
end PySem
namespace Be
open PySem L2
theorem KeyAt.same {α : Type} {toV : α → V} {H H' : Hp} {k : α × List α} {b : Addr} (s : Same H H') (h : KeyAt toV H k b) : KeyAt toV H' k b :=
  let ⟨t, h1, h2⟩ := h; ⟨t, s _ _ h1, s _ _ h2⟩
section
variable {α : Type} [DecidableEq α]
/-- the first place -/
def ixOf (l : List α) (k : α) : Nat := l.idxOf k
theorem ix_self {k : α} {l : List α} : ixOf (k :: l) k = 0 := List.idxOf_cons_self
theorem ix_ne {x k : α} {l : List α} (h : ¬ x = k) : ixOf (x :: l) k = ixOf l k + 1 := by
  unfold ixOf
  rw [List.idxOf_cons]
  have e : (x == k) = false := beq_eq_false_iff_ne.mpr h
  rw [e]; rfl
theorem dd_len (l : List α) : (dd l).length ≤ l.length := by
  have := addN_len (l := l) (f := ([] : List α))
  rw [List.length_nil, Nat.zero_add] at this
  exact this
/-- entries with their places as values -/
structure EsOk (es : List (PEnt α)) (ks : List (α × List α)) : Prop where
  keys : es.map (·.1) = ks
  vals : ∀ j e, es[j]? = some e → e.2.2 = V.int ((j : Nat) : Int)
theorem pAt_from (k : α × List α) : ∀ (es : List (PEnt α)) (o : Nat), (∀ j e, es[j]? = some e → e.2.2 = V.int ((o + j : Nat) : Int)) →
    (k ∈ es.map (·.1) → pAt es k = some (V.int ((o + ixOf (es.map (·.1)) k : Nat) : Int))) ∧ (k ∉ es.map (·.1) → pAt es k = none)
  | [], o, _ => ⟨(fun h => by cases h), fun _ => rfl⟩
  | x :: es, o, h => by
    have ih := pAt_from k es (o + 1) fun j e hj => by
      have := h (j + 1) e (by simpa using hj)
      rw [this]; congr 2; omega
    have h0 := h 0 x rfl
    unfold pAt at ih ⊢
    rw [List.find?_cons, List.map_cons]
    by_cases e : x.1 = k
    · rw [decide_eq_true e]
      refine ⟨fun _ => ?_, fun hn => absurd (by rw [e]; exact List.mem_cons_self) hn⟩
      rw [← e, ix_self]
      show some x.2.2 = _
      rw [h0]
    · rw [decide_eq_false e]
      refine ⟨fun hm => ?_, fun hn => ih.2 fun z => hn (List.mem_cons_of_mem _ z)⟩
      rcases List.mem_cons.mp hm with z | z
      · exact absurd z.symm e
      · refine (ih.1 z).trans ?_
        rw [ix_ne e]
        congr 3; omega
theorem EsOk.at {es : List (PEnt α)} {ks : List (α × List α)} (h : EsOk es ks) (k : α × List α) : (k ∈ ks → pAt es k = some (V.int ((ixOf ks k : Nat) : Int))) ∧ (k ∉ ks → pAt es k = none) := by
  have := pAt_from k es 0 fun j e hj => by rw [h.vals j e hj, Nat.zero_add]
  rw [h.keys] at this
  simpa only [Nat.zero_add] using this
theorem EsOk.snoc {es : List (PEnt α)} {ks : List (α × List α)} (h : EsOk es ks) (k : α × List α) (b : Addr) : EsOk (es ++ [(k, b, .int (es.length : Nat))]) (ks ++ [k]) := by
  refine ⟨by rw [List.map_append, h.keys]; rfl, fun j e hj => ?_⟩
  by_cases hl : j < es.length
  · rw [List.getElem?_append_left hl] at hj
    exact h.vals j e hj
  · have hj' := (List.getElem?_eq_some_iff.mp hj).1
    rw [List.length_append, List.length_singleton] at hj'
    have : j = es.length := by omega
    subst this
    rw [List.getElem?_append_right (Nat.le_refl _), Nat.sub_self] at hj
    cases Option.some.inj hj
    rfl
end
theorem hu2_of {A : Around} {k : Nat} (hr : Room k A) : A.units + 2 < cLine := Nat.lt_of_le_of_lt (Nat.add_le_add_left (by decide : 2 ≤ 64) _) hr.units
section
variable {P : Program} {w : World} {K : PySem.W.Frag} {mg : Str → Option Value} {base : Heap}
/-! ### grouped -/
end
end Be

namespace L2
open PySem PySem.Spec PyProof.Rows
section
variable {X : Cx}
theorem pi_listK (K : PySem.W.Frag) {tg l : Expr} {tl : TE} (hl : PE X l tl) (hK : X.K = K := by rfl) : PI X tg l (iList K tl) := by subst hK; exact pi_list hl
end
def env0 (sc : Scope) : Env := { scope := sc, locals := 0, globals := 0, cells := [] }
end L2
namespace Be
open PySem L2
/-- kept where D alone is changed, which is no tuple -/
theorem KeyAt.put {α : Type} {toV : α → V} {H : Hp} {k : α × List α} {b D : Addr} {o u : HO} (h : KeyAt toV H k b) (hD : H D = some o) (ho : ∀ xs, o ≠ .tup xs) : KeyAt toV (upd H D u) k b := by
  obtain ⟨t, h1, h2⟩ := h
  exact ⟨t, by rw [upd_ne (ne_of h1 hD (fun e => ho _ e.symm))]; exact h1, by rw [upd_ne (ne_of h2 hD (fun e => ho _ e.symm))]; exact h2⟩
section
variable {P : Program} {w : World} {K : PySem.W.Frag} {mg : Str → Option Value} {base : Heap}
/-- marks stand in a dict -/
def MarksAt {α : Type} (toV : α → V) (H : Hp) (kvs : List (Key × V)) (ord : List Nat) (mark : Nat → α × List α) : Prop :=
  ∀ s ∈ ord, ∃ b, valV kvs (Sum.inl ((s : Nat) : Int)) = some (.ref b) ∧ KeyAt toV H (mark s) b
theorem MarksAt.same {α : Type} {toV : α → V} {H H' : Hp} {kvs : List (Key × V)} {ord : List Nat} {mark : Nat → α × List α} (s : Same H H') (h : MarksAt toV H kvs ord mark) : MarksAt toV H' kvs ord mark := fun x hx =>
  let ⟨b, h1, h2⟩ := h x hx; ⟨b, h1, KeyAt.same s h2⟩
theorem MarksAt.put {α : Type} {toV : α → V} {H : Hp} {kvs : List (Key × V)} {ord : List Nat} {mark : Nat → α × List α} {D b : Addr} {x : Nat} (h : MarksAt toV H kvs ord mark) (hD : H D = some (.dK kvs)) (hb : KeyAt toV H (mark x) b) :
    MarksAt toV (upd H D (.dK (putK kvs (Sum.inl ((x : Nat) : Int)) (.ref b)))) (putK kvs (Sum.inl ((x : Nat) : Int)) (.ref b)) (ord ++ [x]) mark := fun y hy => by
  rw [valV_put]
  by_cases e : y = x
  · subst e
    exact ⟨b, if_pos rfl, KeyAt.put hb hD fun xs z => nomatch z⟩
  · rw [if_neg (fun z => e (by injection z with z; omega))]
    rcases List.mem_append.mp hy with z | z
    · obtain ⟨b', h1, h2⟩ := h y z
      exact ⟨b', h1, KeyAt.put h2 hD fun xs z => nomatch z⟩
    · exact absurd (List.mem_singleton.mp z) e
/-! ### marks_by_move -/
abbrev NK : List Str := ["order", "moves", "groups", "state", "goal"]
end
end Be

namespace Be
open PySem L2
theorem Mach.mids_at {M : Mach} {Bd : Nat} (ok : M.OkB Bd) {q : Nat} (h : q < M.moves.length) : M.mids[q]? = some (M.mids.getD q []) := by
  have : q < M.mids.length := by rw [ok.mids]; exact h
  rw [List.getD_eq_getElem?_getD, List.getElem?_eq_getElem this, Option.getD_some]
/-- some machine of at most forty states has the same words -/
def Few (M : Mach) : Prop := ∃ N : Mach, N.Ok ∧ N.k = M.k ∧ Eqs M N 0 0
theorem Few.cnt {M : Mach} {Bd : Nat} (ok : M.OkB Bd) (h : Few M) {ord : List Nat} (hrun : Run M 0 [0] ord) (t : Nat) : cnt ord (G M ord t) ≤ 40 := by
  obtain ⟨N, okN, ek, e⟩ := h
  obtain ⟨nd, lt, cl, h0, _⟩ := run_facts ok hrun
  have reach : ∀ s ∈ ord, ∃ is, M.Stp is ∧ M.go 0 is = s := Run.reach ok hrun (fun s hs => by rw [List.mem_singleton.mp hs]; exact ok.n1) (fun s hs => ⟨[], (fun _ h => by cases h), (by rw [List.mem_singleton.mp hs]; rfl)⟩)
  obtain ⟨ψ, hψ⟩ : ∃ ψ : Nat → Nat, ∀ s ∈ ord, ∃ is, M.Stp is ∧ M.go 0 is = s ∧ ψ s = N.go 0 is :=
    ⟨fun s => if h : s ∈ ord then N.go 0 (Classical.choose (reach s h)) else 0, fun s hs => ⟨_, (Classical.choose_spec (reach s hs)).1, (Classical.choose_spec (reach s hs)).2, dif_pos hs⟩⟩
  have hE : ∀ s ∈ ord, Eqs M N s (ψ s) := fun s hs => by
    obtain ⟨is, h1, h2, h3⟩ := hψ s hs
    rw [h3, ← h2]; exact e.go h1
  have fin : ∀ p ∈ ord, ∀ q ∈ ord, ψ p = ψ q → G M ord t p = G M ord t q := fun p hp q hq z =>
    G_eqs ok cl lt hp hq (Eqs.trans ek.symm (hE p hp) (by rw [z]; exact (hE q hq).symm ek.symm))
  obtain ⟨φ, _, hφ⟩ := coarser fin
  unfold Be.cnt
  rw [hφ]
  refine Nat.le_trans (dd_len _) ?_
  rw [List.length_map]
  refine Nat.le_trans (nodup_le (dd_nodup _) (n := N.moves.length) fun x hx => ?_) okN.n40
  obtain ⟨s, hs, rfl⟩ := List.mem_map.mp (mem_dd.mp hx)
  obtain ⟨is, h1, _, h3⟩ := hψ s hs
  rw [h3]
  exact Mach.go_lt okN okN.n1 fun i hi => by rw [ek]; exact h1 i hi
theorem Few.eqs {M N : Mach} (ek : N.k = M.k) (h : Few M) (e : Eqs M N 0 0) : Few N := by
  obtain ⟨O, okO, eO, q⟩ := h
  exact ⟨O, okO, eO.trans ek.symm, Eqs.trans ek (e.symm ek.symm) q⟩
section
variable {P : Program} {w : World} {K : PySem.W.Frag} {mg : Str → Option Value} {base : Heap}
/-! ### alike_groups -/
end
end Be

namespace Be
open PySem L2
/-- a machine at v, all its lists new since H0 -/
def MNew (H0 H : Hp) (v : V) (M : Mach) : Prop :=
  ∃ (a pm pe pq : Addr) (rs qs : List V), v = .ref a ∧ H a = some (.tup [.str M.letters, .ref pm, .ref pe, .ref pq]) ∧ H pm = some (.lst rs) ∧ Rows H rs (M.moves.map vI) ∧
    H pe = some (.lst (vB M.ends)) ∧ H pq = some (.lst qs) ∧ Rows H qs (M.mids.map vB) ∧ H0 a = none ∧ H0 pm = none ∧ H0 pe = none ∧ H0 pq = none ∧
    (∀ r ∈ rs, ∃ p, r = .ref p ∧ H0 p = none) ∧ (∀ r ∈ qs, ∃ p, r = .ref p ∧ H0 p = none)
theorem MNew.mat {H0 H : Hp} {v : V} {M : Mach} (h : MNew H0 H v M) : MAt H v M := by
  obtain ⟨a, pm, pe, pq, rs, qs, e, h1, h2, h3, h4, h5, h6, _⟩ := h
  exact ⟨a, pm, pe, pq, rs, qs, e, h1, h2, h3, h4, h5, h6⟩
/-- new rows so far -/
abbrev CopF (H0 H : Hp) (D : Addr) (xss : List (List V)) (i : Nat) (H' : Hp) : Prop := Same H H' ∧ ∃ rs, H' D = some (.lst rs) ∧ Rows (msk H' [D]) rs (xss.take i) ∧ ∀ r ∈ rs, ∃ p, r = .ref p ∧ H0 p = none
theorem CopF.next {H0 H H1 H2 : Hp} {D : Addr} {xss : List (List V)} {i : Nat} {xs : List V} {l : Addr} (s0 : Same H0 H) (hD : H D = none) (h : CopF H0 H D xss i H1) (hx : xss[i]? = some xs) (s2 : Same H1 H2) (hl : H1 l = none) (hl2 : H2 l = some (.lst xs)) (hi : i ≤ 10000) :
    ∃ acc, H2 D = some (.lst acc) ∧ acc.length < sizeLine ∧ CopF H0 H D xss (i + 1) (upd H2 D (.lst (acc ++ [.ref l]))) := by
  obtain ⟨s, rs, h1, h2, h3⟩ := h
  have ne : D ≠ l := ne_of_none h1 hl
  have hlt : i < xss.length := (List.getElem?_eq_some_iff.mp hx).1
  have hrl : rs.length = i := by rw [h2.len, List.length_take]; omega
  refine ⟨rs, s2 _ _ h1, by rw [hrl]; exact sz_lt (by omega), Same.put (s.trans s2) hD, rs ++ [.ref l], upd_same, ?_, fun r hr => ?_⟩
  · rw [msk_upd (List.mem_singleton.mpr rfl), List.take_succ_eq_append_getElem hlt, (List.getElem?_eq_some_iff.mp hx).2]
    exact RowsM.snoc (h2.same (msk_same s2)) (fun q => ne (List.mem_singleton.mp q).symm) hl2
  · rcases List.mem_append.mp hr with z | z
    · exact h3 r z
    · exact ⟨l, List.mem_singleton.mp z, (s0.trans s).free hl⟩
section
variable {P : Program} {w : World} {K : PySem.W.Frag} {mg : Str → Option Value} {base : Heap}
/-! ### first_of_each -/
/-! ### least_alike -/
/-! ### least -/
theorem MNew.back {H0 H1 H : Hp} {v : V} {M : Mach} (s : Same H0 H1) (h : MNew H1 H v M) : MNew H0 H v M := by
  obtain ⟨a, pm, pe, pq, rs, qs, e, h1, h2, h3, h4, h5, h6, f1, f2, f3, f4, f5, f6⟩ := h
  exact ⟨a, pm, pe, pq, rs, qs, e, h1, h2, h3, h4, h5, h6, s.free f1, s.free f2, s.free f3, s.free f4, fun r hr => let ⟨p, q1, q2⟩ := f5 r hr; ⟨p, q1, s.free q2⟩, fun r hr => let ⟨p, q1, q2⟩ := f6 r hr; ⟨p, q1, s.free q2⟩⟩
end
end Be

namespace Be
open PySem L2
/-! ### counting: mathematics -/
def Mach.cnt (M : Mach) : Nat → Nat → Nat
  | 0, q => if M.fin q = true then 1 else 0
  | 1, q => (M.mids.getD q []).count true
  | n + 2, q => ((M.row q).map (M.cnt n)).sum
def textsL (L : List Nat) : Nat → List (List Nat)
  | 0 => [[]]
  | t + 1 => (textsL L t).flatMap fun y => L.map fun c => y ++ [c]
theorem textsL_cons (L : List Nat) : ∀ t, textsL L (t + 1) = L.flatMap fun a => (textsL L t).map fun w => a :: w
  | 0 => by
    show [[]].flatMap (fun y => L.map fun c => y ++ [c]) = L.flatMap fun a => [[]].map fun w => a :: w
    simp [List.flatMap_singleton, List.flatMap_cons, List.map_eq_flatMap]
  | t + 1 => by
    show (textsL L (t + 1)).flatMap (fun y => L.map fun c => y ++ [c]) = L.flatMap fun a => (textsL L (t + 1)).map fun w => a :: w
    have ih := textsL_cons L t
    conv => lhs; rw [ih, List.flatMap_assoc]
    congr 1
    funext a
    rw [List.flatMap_map]
    show _ = ((textsL L t).flatMap fun y => L.map fun c => y ++ [c]).map fun w => a :: w
    rw [List.map_flatMap]
    congr 1
    funext w
    rw [List.map_map]
    rfl
theorem textsL_len (L : List Nat) : ∀ t, (textsL L t).length = L.length ^ t
  | 0 => rfl
  | t + 1 => by
    show ((textsL L t).flatMap fun y => L.map fun c => y ++ [c]).length = _
    rw [List.length_flatMap]
    have : (textsL L t).map (fun y => (L.map fun c => y ++ [c]).length) = (textsL L t).map fun _ => L.length := by
      congr 1; funext y; rw [List.length_map]
    rw [this, List.map_const', List.sum_replicate_nat, textsL_len L t, Nat.pow_succ]
theorem textsL_mem {L : List Nat} : ∀ {t : Nat} {w : List Nat}, w ∈ textsL L t → w.length = t ∧ ∀ c ∈ w, c ∈ L
  | 0, w, h => by
    rw [show textsL L 0 = [[]] from rfl, List.mem_singleton] at h
    subst h
    exact ⟨rfl, fun _ h => by cases h⟩
  | t + 1, w, h => by
    rw [show textsL L (t + 1) = (textsL L t).flatMap fun y => L.map fun c => y ++ [c] from rfl, List.mem_flatMap] at h
    obtain ⟨y, hy, h⟩ := h
    obtain ⟨c, hc, rfl⟩ := List.mem_map.mp h
    obtain ⟨h1, h2⟩ := textsL_mem hy
    refine ⟨by rw [List.length_append, h1]; rfl, fun d hd => ?_⟩
    rcases List.mem_append.mp hd with z | z
    · exact h2 d z
    · rw [List.mem_singleton.mp z]; exact hc
/-! ### sums -/
theorem sum_get {α : Type} (f : α → Nat) (d : α) : ∀ (T : List α), (T.map f).sum = ((List.range T.length).map fun j => f (T.getD j d)).sum
  | [] => rfl
  | x :: T => by
    rw [List.map_cons, List.sum_cons, List.length_cons, List.range_succ_eq_map, List.map_cons, List.sum_cons, List.map_map, sum_get f d T]
    rfl
theorem sum_chunk (f : Nat → Nat) (m : Nat) : ∀ (k : Nat) (R : List Nat), R.length = k * m → (R.map f).sum = ((List.range k).map fun i => ((List.range m).map fun j => f (R.getD (i * m + j) 0)).sum).sum
  | 0, R, h => by
    rw [Nat.zero_mul] at h
    rw [List.length_eq_zero_iff.mp h]; rfl
  | k + 1, R, h => by
    have h' : R.length = m + k * m := by rw [h, Nat.succ_mul, Nat.add_comm]
    have e : R = R.take m ++ R.drop m := (List.take_append_drop m R).symm
    have h1 : (R.take m).length = m := by rw [List.length_take]; omega
    have h2 : (R.drop m).length = k * m := by rw [List.length_drop]; omega
    have e1 : (R.map f).sum = ((R.take m).map f).sum + ((R.drop m).map f).sum := by
      conv => lhs; rw [e, List.map_append, List.sum_append]
    rw [e1, sum_get f 0 (R.take m), h1, sum_chunk f m k _ h2, List.range_succ_eq_map, List.map_cons, List.sum_cons, List.map_map]
    congr 1
    · congr 1
      refine List.map_congr_left fun j hj => ?_
      have hj' : j < m := List.mem_range.mp hj
      rw [List.getD_eq_getElem?_getD, List.getElem?_take_of_lt hj', Nat.zero_mul, Nat.zero_add, List.getD_eq_getElem?_getD]
    · congr 1
      refine List.map_congr_left fun i hi => ?_
      show _ = ((List.range m).map fun j => f (R.getD ((i + 1) * m + j) 0)).sum
      congr 1
      refine List.map_congr_left fun j hj => ?_
      rw [List.getD_eq_getElem?_getD, List.getElem?_drop, List.getD_eq_getElem?_getD]
      congr 3
      rw [Nat.succ_mul]; omega
theorem sum_map_add {α : Type} (f g : α → Nat) : ∀ l : List α, (l.map fun x => f x + g x).sum = (l.map f).sum + (l.map g).sum
  | [] => rfl
  | x :: l => by
    rw [List.map_cons, List.sum_cons, List.map_cons, List.sum_cons, List.map_cons, List.sum_cons, sum_map_add f g l]; omega
theorem countP_if {α : Type} (p : α → Bool) : ∀ l : List α, l.countP p = (l.map fun x => if p x = true then 1 else 0).sum
  | [] => rfl
  | x :: l => by
    rw [List.countP_cons, List.map_cons, List.sum_cons, countP_if p l]; omega
theorem sum_zero {α : Type} : ∀ l : List α, (l.map fun _ => 0).sum = 0
  | [] => rfl
  | _ :: l => by rw [List.map_cons, List.sum_cons, sum_zero l]
theorem sum_swap {α β : Type} (p : α → β → Bool) (L : List β) : ∀ W : List α, (W.map fun w => L.countP (p w)).sum = (L.map fun b => W.countP fun w => p w b).sum
  | [] => (sum_zero L).symm
  | w :: W => by
    rw [List.map_cons, List.sum_cons, sum_swap p L W, countP_if (p w) L, ← sum_map_add]
    congr 1
    refine List.map_congr_left fun b _ => ?_
    rw [List.countP_cons]; omega
/-! ### letters -/
theorem LetOk.nodup {x : Str} (h : LetOk x) : x.cps.toList.Nodup := by
  have k1 := h.k1
  have k3 := h.k3
  have hl : x.cps.toList.length = x.cps.size := Array.length_toList
  have up : ∀ i c d, x.cps.toList[i]? = some c → x.cps.toList[i + 1]? = some d → c < d := fun i c d h1 h2 => by
    rw [Array.getElem?_toList] at h1 h2; exact h.up i c d h1 h2
  generalize x.cps.toList = l at hl up
  match l, hl with
  | [a], _ => simp
  | [a, b], _ =>
    have h1 := up 0 a b rfl rfl
    simp; omega
  | [a, b, c], _ =>
    have h1 := up 0 a b rfl rfl
    have h2 := up 1 b c rfl rfl
    simp; omega
  | [], e => simp at e; omega
  | _ :: _ :: _ :: _ :: _, e => simp at e; omega
theorem LetOk.ix {x : Str} (h : LetOk x) {i : Nat} (hi : i < x.cps.size) : x.cps.toList.idxOf (x.cps.toList.getD i 0) = i := by
  have hl : i < x.cps.toList.length := by rw [Array.length_toList]; exact hi
  rw [List.getD_eq_getElem?_getD, List.getElem?_eq_getElem hl, Option.getD_some]
  exact h.nodup.idxOf_getElem i hl
/-! ### reading from both ends -/
theorem hasAt_pair {M : Mach} {q a b : Nat} {w : List Nat} : M.hasAt q (a :: (w ++ [b])) = M.hasAt (M.stp q (a, b)) w := by
  unfold Mach.hasAt
  have hl : (a :: (w ++ [b])).length = w.length + 2 := by simp
  have hr : (a :: (w ++ [b])).reverse = b :: (w.reverse ++ [a]) := by simp
  rw [hl, hr]
  have h2 : (w.length + 2) / 2 = w.length / 2 + 1 := by omega
  have h3 : (w.length + 2) % 2 = w.length % 2 := by omega
  have hz : ((a :: (w ++ [b])).zip (b :: (w.reverse ++ [a]))).take (w.length / 2 + 1) = (a, b) :: (w.zip w.reverse).take (w.length / 2) := by
    rw [List.zip_cons_cons, List.take_succ_cons, List.zip_append (by simp), List.take_append_of_le_length (by simp; omega)]
  rw [h2, h3, hz]
  show (if w.length % 2 = 0 then M.fin (M.run (M.stp q (a, b)) ((w.zip w.reverse).take (w.length / 2))) else _) = _
  by_cases hp : w.length % 2 = 0
  · rw [if_pos hp, if_pos hp]
  · rw [if_neg hp, if_neg hp]
    congr 1
    rw [List.getD_cons_succ, List.getD_eq_getElem?_getD, List.getElem?_append_left (by omega), List.getD_eq_getElem?_getD]
theorem cnt_texts {M : Mach} {Bd : Nat} (ok : M.OkB Bd) : ∀ (n q : Nat), q < M.n → (textsL M.L n).countP (M.hasAt q) = M.cnt n q
  | 0, q, hq => by
    show [[]].countP (M.hasAt q) = if M.fin q = true then 1 else 0
    have e : M.hasAt q [] = M.fin q := rfl
    rw [List.countP_singleton, e]
  | 1, q, hq => by
    rw [textsL_cons]
    show (M.L.flatMap fun a => [[]].map fun w => a :: w).countP (M.hasAt q) = (M.mids.getD q []).count true
    have e1 : (M.L.flatMap fun a => [[]].map fun w => a :: w) = M.L.map fun a => [a] := by rw [List.map_eq_flatMap]; rfl
    rw [e1, List.countP_map]
    have hl : M.L.length = M.k := Array.length_toList
    have hm : q < M.mids.length := by rw [ok.mids]; exact hq
    have hml : (M.mids.getD q []).length = M.k := by
      rw [List.getD_eq_getElem?_getD, List.getElem?_eq_getElem hm, Option.getD_some]; exact ok.mrows _ (List.getElem_mem hm)
    rw [List.count, countP_if, countP_if, sum_get _ 0 M.L, sum_get _ false (M.mids.getD q []), hl, hml]
    congr 1
    refine List.map_congr_left fun i hi => ?_
    have hi' : i < M.k := List.mem_range.mp hi
    have e2 : (M.hasAt q ∘ fun a => [a]) (M.L.getD i 0) = (M.mids.getD q []).getD i false := by
      have eh : ∀ x, M.hasAt q [x] = M.mid q x := fun x => by simp [Mach.hasAt, Mach.run]
      show M.hasAt q [M.L.getD i 0] = _
      rw [eh]
      unfold Mach.mid Mach.ix
      rw [ok.let_.ix hi']
    rw [e2]
    cases (M.mids.getD q []).getD i false <;> rfl
  | n + 2, q, hq => by
    rw [textsL_cons]
    show (M.L.flatMap fun a => ((textsL M.L n).flatMap fun y => M.L.map fun c => y ++ [c]).map fun w => a :: w).countP (M.hasAt q) = ((M.row q).map (M.cnt n)).sum
    have hl : M.L.length = M.k := Array.length_toList
    obtain ⟨r1, r2, _⟩ := Mach.row_len ok hq
    rw [List.countP_flatMap, sum_chunk (M.cnt n) M.k M.k (M.row q) r1]
    have e1 : ∀ a, (List.countP (M.hasAt q) ∘ fun a => ((textsL M.L n).flatMap fun y => M.L.map fun c => y ++ [c]).map fun w => a :: w) a = (M.L.map fun b => (textsL M.L n).countP fun w => M.hasAt (M.stp q (a, b)) w).sum := fun a => by
      show List.countP (M.hasAt q) (((textsL M.L n).flatMap fun y => M.L.map fun c => y ++ [c]).map fun w => a :: w) = _
      rw [List.countP_map, List.countP_flatMap, ← sum_swap (fun w b => M.hasAt (M.stp q (a, b)) w) M.L (textsL M.L n)]
      congr 1
      refine List.map_congr_left fun w _ => ?_
      show List.countP (M.hasAt q ∘ fun w => a :: w) (M.L.map fun c => w ++ [c]) = _
      rw [List.countP_map]
      congr 1
      funext b
      exact hasAt_pair
    rw [List.map_congr_left (fun a _ => e1 a), sum_get _ 0 M.L, hl]
    congr 1
    refine List.map_congr_left fun i hi => ?_
    have hi' : i < M.k := List.mem_range.mp hi
    rw [sum_get _ 0 M.L, hl]
    congr 1
    refine List.map_congr_left fun j hj => ?_
    have hj' : j < M.k := List.mem_range.mp hj
    have es : M.stp q (M.L.getD i 0, M.L.getD j 0) = (M.row q).getD (i * M.k + j) 0 := by
      unfold Mach.stp Mach.ix Mach.row
      dsimp only
      rw [ok.let_.ix hi', ok.let_.ix hj']
    have hlt : i * M.k + j < M.k * M.k := by
      calc i * M.k + j < i * M.k + M.k := by omega
        _ = (i + 1) * M.k := by rw [Nat.succ_mul]
        _ ≤ M.k * M.k := Nat.mul_le_mul_right _ hi'
    have hgo : M.stp q (M.L.getD i 0, M.L.getD j 0) < M.n := by
      rw [es]; exact r2 _ (by rw [List.getD_eq_getElem?_getD, List.getElem?_eq_getElem (by rw [r1]; exact hlt), Option.getD_some]; exact List.getElem_mem _)
    show (textsL M.L n).countP (fun w => M.hasAt (M.stp q (M.L.getD i 0, M.L.getD j 0)) w) = _
    rw [← es]
    exact cnt_texts ok n _ hgo
/-! ### what counts -/
def Mach.neg (M : Mach) : Mach := ⟨M.letters, M.moves, M.ends.map not, M.mids.map fun r => r.map not⟩
end Be

namespace L2
open PySem PySem.Spec PyProof.Rows
section
variable {X : Cx}
theorem cr_sumK (K : PySem.W.Frag) (hc : X.calm = true) (hK : X.K = K := by rfl) : CallR X (.builtin "sum") (rSum K) := by subst hK; exact cr_sum hc
/-- an expression's ways joined -/
def tJoinE (t : TE) : TE := fun σ H Q => ∃ R : VK, t σ H R ∧ ∀ v H', R v H' → Q v H'
theorem pe_joinE {e : Expr} {t : TE} (h : PE X e t) : PE X e (tJoinE t) := by
  intro pins s σ H Q I hq
  obtain ⟨R, hq, hR⟩ := hq
  exact thn (h pins s σ H _ I hq) fun u s1 ⟨v, H', I', r, q⟩ => ⟨v, H', I', r, hR v H' q⟩
end
/-- a block, by what it wants -/
def Blk (X : Cx) (sts : List Stmt) (W : Ends → St → Hp → Prop) : Prop := ∃ t, PSs X sts t ∧ ∀ D σ H, W D σ H → t D σ H
/-! ### parts of a text -/
def noE : Expr := .Constant .none 0 ⟨0, 0, 0, 0⟩
def kidE : Expr → Nat → Expr
  | .BoolOp _ vs _, i => vs.getD i noE
  | .BinOp l _ r _, i => match i with | 0 => l | _ => r
  | .UnaryOp _ e _, _ => e
  | .IfExp t b o _, i => match i with | 0 => t | 1 => b | _ => o
  | .ListComp e _ _ _, _ => e
  | .SetComp e _ _ _, _ => e
  | .DictComp k v _ _ _, i => match i with | 0 => k | _ => v
  | .Compare l _ cs _, i => match i with | 0 => l | i + 1 => cs.getD i noE
  | .Call f as _ _, i => match i with | 0 => f | i + 1 => as.getD i noE
  | .Attribute v _ _, _ => v
  | .Subscript v s _, i => match i with | 0 => v | _ => s
  | .List es _, i => es.getD i noE
  | .Tuple es _ _, i => es.getD i noE
  | e, _ => e
def scpE : Expr → Scope → Scope
  | .ListComp _ _ sc _, _ => sc
  | .SetComp _ _ sc _, _ => sc
  | .DictComp _ _ _ sc _, _ => sc
  | _, d => d
def stE : Stmt → Expr
  | .Return (some e) _ => e
  | .Assign _ e _ => e
  | .AugAssign _ _ e _ => e
  | .Expr e _ => e
  | .If e _ _ _ => e
  | .While e _ _ _ => e
  | .For _ e _ _ _ => e
  | _ => noE
def stB : Stmt → List Stmt
  | .For _ _ b _ _ => b
  | .While _ b _ _ => b
  | .If _ b _ _ => b
  | _ => []
abbrev stN (l : List Stmt) (i : Nat) : Stmt := l.getD i (.Pass ⟨0, 0, 0, 0⟩)
end L2
namespace Be
open PySem L2
mutual
theorem Tk.dp {K : PySem.W.Frag} {H : Hp} : ∀ {v : V} {d : PyData}, Tk H v d → Dp K H v d
  | _, _, .bl b => .bl b
  | _, _, .int i => .int i
  | _, _, .str x => .str x
  | _, _, .lst e h => .lst (SqL.of e) (TkAll.dp h)
  | _, _, .tup e h => .tup (SqT.of e) (TkAll.dp h)
theorem TkAll.dp {K : PySem.W.Frag} {H : Hp} : ∀ {vs : List V} {ds : List PyData}, TkAll H vs ds → DpAll K H vs ds
  | _, _, .nil => .nil
  | _, _, .cons h r => .cons (Tk.dp h) (TkAll.dp r)
end
/-- a comprehension's list so far -/
abbrev Tak (H : Hp) (D : Addr) (ys : List V) (i : Nat) (H' : Hp) : Prop := Same H H' ∧ H' D = some (.lst (ys.take i))
theorem Tak.start {H : Hp} {D : Addr} {ys : List V} (hD : H D = none) : Tak H D ys 0 (upd H D (.lst [])) := ⟨Same.upd hD, upd_same⟩
theorem Tak.next {H H1 H2 : Hp} {D : Addr} {ys : List V} {i : Nat} {w : V} (hD : H D = none) (h : Tak H D ys i H1) (s2 : Same H1 H2) (e : ys[i]? = some w) (hl : ys.length ≤ 10000000) :
    ∃ acc, H2 D = some (.lst acc) ∧ acc.length < sizeLine ∧ Tak H D ys (i + 1) (upd H2 D (.lst (acc ++ [w]))) := by
  have hi : i < ys.length := (List.getElem?_eq_some_iff.mp e).1
  refine ⟨ys.take i, s2 _ _ h.2, sz_lt (by rw [List.length_take]; omega), Same.put (h.1.trans s2) hD, ?_⟩
  rw [upd_same, List.take_succ_eq_append_getElem hi, (List.getElem?_eq_some_iff.mp e).2]
theorem Tak.all {H H' : Hp} {D : Addr} {ys : List V} {n : Nat} (h : Tak H D ys n H') (hn : ys.length ≤ n) : Same H H' ∧ H' D = some (.lst ys) := ⟨h.1, by rw [h.2, List.take_of_length_le hn]⟩
/-- new rows so far -/
abbrev Rak (H0 H : Hp) (D : Addr) (xss : List (List V)) (i : Nat) (H' : Hp) : Prop := Same H H' ∧ ∃ rs, H' D = some (.lst rs) ∧ Rows (msk H' [D]) rs (xss.take i) ∧ ∀ r ∈ rs, ∃ p, r = .ref p ∧ H0 p = none
theorem Rak.start {H0 H : Hp} {D : Addr} {xss : List (List V)} (hD : H D = none) : Rak H0 H D xss 0 (upd H D (.lst [])) := ⟨Same.upd hD, [], upd_same, .nil, fun _ h => by cases h⟩
theorem Rak.next {H0 H H1 H2 : Hp} {D : Addr} {xss : List (List V)} {i : Nat} {xs : List V} {l : Addr} (s0 : Same H0 H) (hD : H D = none) (h : Rak H0 H D xss i H1) (hx : xss[i]? = some xs) (s2 : Same H1 H2) (hl : H1 l = none) (hl2 : H2 l = some (.lst xs)) (hn : xss.length ≤ 10000000) :
    ∃ acc, H2 D = some (.lst acc) ∧ acc.length < sizeLine ∧ Rak H0 H D xss (i + 1) (upd H2 D (.lst (acc ++ [.ref l]))) := by
  obtain ⟨s, rs, h1, h2, h3⟩ := h
  have ne : D ≠ l := ne_of_none h1 hl
  have hlt : i < xss.length := (List.getElem?_eq_some_iff.mp hx).1
  have hrl : rs.length = i := by rw [h2.len, List.length_take]; omega
  refine ⟨rs, s2 _ _ h1, by rw [hrl]; exact sz_lt (by omega), Same.put (s.trans s2) hD, rs ++ [.ref l], upd_same, ?_, fun r hr => ?_⟩
  · rw [msk_upd (List.mem_singleton.mpr rfl), List.take_succ_eq_append_getElem hlt, (List.getElem?_eq_some_iff.mp hx).2]
    exact RowsM.snoc (h2.same (msk_same s2)) (fun q => ne (List.mem_singleton.mp q).symm) hl2
  · rcases List.mem_append.mp hr with z | z
    · exact h3 r z
    · exact ⟨l, List.mem_singleton.mp z, (s0.trans s).free hl⟩
theorem Rak.all {H0 H H' : Hp} {D : Addr} {xss : List (List V)} {n : Nat} (h : Rak H0 H D xss n H') (hn : xss.length ≤ n) : Same H H' ∧ ∃ rs, H' D = some (.lst rs) ∧ Rows H' rs xss ∧ ∀ r ∈ rs, ∃ p, r = .ref p ∧ H0 p = none := by
  obtain ⟨s, rs, h1, h2, h3⟩ := h
  rw [List.take_of_length_le hn] at h2
  exact ⟨s, rs, h1, h2.same msk_le, h3⟩
end Be

namespace L2
open PySem PySem.Spec PyProof.Rows
/-- a list's iterator, walked, the counters known -/
theorem walksS_lst {prog : Program} {w : World} {A : Around} (hh : A.handled = none) (it l : Addr) (hne : l ≠ it) (vs : Array Value) :
    WalksS prog w A it [it, l] [it] (fun a b => a = b) vs.size (fun i v => vs[i]? = some v) (fun i s => s.heap.IsListIter it l i ∧ s.heap.IsList l vs) := by
  refine ⟨fun b hb => ?_, fun _ => rfl, fun _ _ _ h1 h2 => h1.trans h2, fun i s h' tk st _ hk => ?_, fun i s Q E hi st hQ => ?_, fun s Q E st hQ => ?_, fun _ _ _ _ st hQ => wpAny_pyIter_listiter st.1 hQ⟩
  · rw [List.mem_singleton.mp hb]; exact List.mem_cons_self
  · exact ⟨st.1.at fun o e => hk it (List.mem_cons_self ..) o e, st.2.at fun o e => hk l (List.mem_cons_of_mem _ (List.mem_cons_self ..)) o e⟩
  · have hx : vs[i]? = some (vs[i]'hi) := Array.getElem?_eq_getElem hi
    refine wpAny_pyNext_list_item st.1 st.2 hx fun h' hit' hs' => hQ _ _ hx ⟨hit', st.2.extBut hs'.extBut hne⟩ ⟨fun b o hb e => ?_, rfl, rfl, rfl, Nat.le_refl _⟩
    exact hs'.extBut b o (fun z => hb (z ▸ List.mem_cons_self ..)) e
  · refine wpAny_pyNext_list_end hh st.1 st.2 (by simp) fun h' he' => hQ _ ⟨fun b o hb e => ?_, rfl, rfl, rfl, Nat.le_refl _⟩
    exact he' b o (fun z => hb (z ▸ List.mem_cons_self ..)) e
def b2z (b : Bool) : Int := if b = true then 1 else 0
theorem sum_b2z : ∀ bs : List Bool, (bs.map b2z).sum = ((bs.count true : Nat) : Int)
  | [] => rfl
  | true :: r => by rw [List.map_cons, List.sum_cons, sum_b2z r, List.count_cons_self]; show (1 : Int) + _ = _; omega
  | false :: r => by rw [List.map_cons, List.sum_cons, sum_b2z r, List.count_cons_of_ne (by decide)]; show (0 : Int) + _ = _; omega
theorem sum_bls {prog : Program} {w : World} {A : Around} {E : Value → Shared → Prop} {s : Shared} {l : Addr} {bs : List Bool} {Q : Value → Shared → Prop} (hh : A.handled = none) (hl : s.heap.IsList l (bs.map Value.bool).toArray)
    (h : ∀ h' tk t', (∀ b o, s.heap.get? b = some o → h'.get? b = some o) → Q (.int ((bs.count true : Nat) : Int) t') { s with heap := h', toks := tk }) : wpAny (model prog w) A (call (.builtin "sum") [.ref l]) Q E s := by
  have hlt : l < s.heap.objs.size := by obtain ⟨_, e, _⟩ := hl; exact Heap.lt_size e
  have hne : l ≠ s.heap.objs.size := Nat.ne_of_lt hlt
  refine call_sum_walkAnyB (wpAny_pyIter_list hl ⟨s.heap.objs.size, _, _, _, _, _, _, fun i => (bs.map b2z).getD i 0, rfl, walksS_lst (A := A.in1) hh s.heap.objs.size l hne (bs.map Value.bool).toArray, ⟨⟨_, Heap.get?_push_size _ rfl, rfl, rfl⟩, hl.push _⟩, fun b hb => ?_, fun i v hv => ?_, fun s' t' hm => ?_⟩)
  · show b < (s.heap.push _).objs.size
    rw [Heap.size_push]
    rcases List.mem_cons.mp hb with z | z
    · rw [z]; exact Nat.lt_succ_self _
    · rw [List.mem_singleton.mp z]; exact Nat.lt_succ_of_lt hlt
  · rw [List.getElem?_toArray, List.getElem?_map] at hv
    cases e : bs[i]? with
    | none => rw [e] at hv; cases hv
    | some b =>
      rw [e] at hv
      cases Option.some.inj hv
      refine .inr ⟨b, rfl, ?_⟩
      show (bs.map b2z).getD i 0 = _
      rw [List.getD_eq_getElem?_getD, List.getElem?_map, e]; rfl
  · have es : preSum (fun i => (bs.map b2z).getD i 0) (bs.map Value.bool).toArray.size = ((bs.count true : Nat) : Int) := by
      rw [preSum_getD, List.take_of_length_le (by simp), sum_b2z]
    rw [es]
    have hk : ∀ b o, s.heap.get? b = some o → s'.heap.get? b = some o := fun b o e => hm.heap b o (fun z => by
      have := Heap.lt_size e
      rw [List.mem_singleton.mp z] at this
      exact absurd this (Nat.lt_irrefl _)) (Heap.get?_push_of_some _ e)
    have hg := hm.gens
    have hd := hm.drawn
    have ho := hm.os
    have := h s'.heap s'.toks t' hk
    obtain ⟨h1, h2, h3, h4, h5⟩ := s'
    dsimp only at hg hd ho this ⊢
    subst hg hd ho
    exact this
section
variable {X : Cx}
def rSumB (K : PySem.W.Frag) : List V → Hp → VK → Prop := fun vs H Q => ∃ (a : Addr) (bs : List Bool), vs = [V.ref a] ∧ SqL K H a (bs.map V.bl) ∧ Q (.int ((bs.count true : Nat) : Int)) H
theorem cr_sumB (hc : X.calm = true) : CallR X (.builtin "sum") (rSumB X.K) := by
  intro pins s σ H vs us Q I r h
  obtain ⟨a, ns, rfl, hs, q⟩ := h
  obtain ⟨its, rv, hl, _⟩ := I.list hs
  rw [Vals.ref1 r]
  have e := Vals.bls rv
  subst e
  exact sum_bls (I.ok.hd hc) hl.isList fun h' tk t' hk => ⟨.int _, H, I.kept hk, ⟨_, rfl⟩, q⟩
theorem cr_sumBK (K : PySem.W.Frag) (hc : X.calm = true) (hK : X.K = K := by rfl) : CallR X (.builtin "sum") (rSumB K) := by subst hK; exact cr_sumB hc
end
end L2

namespace Be
open PySem L2
theorem LeastBy.facts {M : Mach} {g : Nat → Nat} {ord : List Nat} (L : LeastBy M g ord) : IsLeast (lmach M g ord) ∧ (lmach M g ord).letters = M.letters ∧ Eqs M (lmach M g ord) 0 0 :=
  ⟨L.isLeast, rfl, by have := L.eqs (run_facts L.ok L.run).2.2.2.1; rw [L.g0] at this; exact this⟩
def crow (M : Mach) (j : Nat) : List V := (List.range M.moves.length).map fun q => V.int ((M.cnt j q : Nat) : Int)
theorem crow_len (M : Mach) (j : Nat) : (crow M j).length = M.moves.length := by unfold crow; rw [List.length_map, List.length_range]
theorem crow_at {M : Mach} {j q : Nat} (h : q < M.moves.length) : (crow M j)[q]? = some (V.int ((M.cnt j q : Nat) : Int)) := by
  unfold crow; rw [List.getElem?_map, List.getElem?_range h]; rfl
theorem sum_cast {α : Type} (f : α → Nat) : ∀ l : List α, (l.map fun x => ((f x : Nat) : Int)).sum = (((l.map f).sum : Nat) : Int)
  | [] => rfl
  | x :: l => by rw [List.map_cons, List.sum_cons, List.map_cons, List.sum_cons, sum_cast f l, Int.natCast_add]
section
variable {P : Program} {w : World} {K : PySem.W.Frag} {mg : Str → Option Value} {base : Heap}
/-! ### check_length -/
def spCheckLength : Sp := fun vs H Q _ => ∃ (i l m : Int), vs = [.int i, .int l, .int m] ∧ l ≤ i ∧ i ≤ m ∧ Q .non H
theorem scCL : FnScope ["long", "fewest", "most"] ["long", "fewest", "most"] (defScope (top 22)) := ⟨rfl, rfl, rfl, by decide +kernel, rfl, by decide +kernel, by decide +kernel⟩
set_option maxHeartbeats 1000000 in
theorem ok_checklength {f f7 : Addr} {fd fd7 : FuncData} (D : Def K mg "check_length" (top 22) ["long", "fewest", "most"] f fd) (T : BI mg)
    (D7 : Def K mg "is_number" (top 10) ["value"] f7 fd7) (G7 : FnOk P w K mg base CX0 1 f7 fd7 ["value"] spIsNumber) :
    FnOk P w K mg base CX0 2 f fd ["long", "fewest", "most"] spCheckLength := by
  refine D.F.ok scCL (fun vs H Q E h => ?_) (fun cdv A outer s H vs Q E hr h => ?_)
  · obtain ⟨i, l, m, rfl, _⟩ := h; rfl
  · obtain ⟨i, l, m, rfl, h0, h1, kk⟩ := h
    refine ⟨_, (pss_one (ps_if (PW.pt (pw_or (pt_not (pt_val (pe_call G7 (hr.mono (by decide)) (by rfl) D7.m D7.F.kp D7.b .nil pass0 (pa_cons (pv 0) pa_nil)))) (pw_or1 (pt_not (pt_chain op_le op_le (pv 1) (pv 0) (pv 2)))))) pss_never pss_nil)), ?_⟩
    refine ⟨_, rfl, _, rfl, _, rfl, iteF ?_⟩
    refine ⟨_, rfl, _, rfl, _, _, rfl, rfl, _, rfl, iteD h0 ⟨_, rfl, _, _, rfl, rfl, _, rfl, ?_⟩⟩
    rw [decide_eq_true h1]
    exact iteF kk
/-! ### counts_inside -/
def spCountsIn : Sp := fun vs H Q _ => ∃ (v : V) (M : Mach) (n : Nat), vs = [v, .int (n : Int)] ∧ MAt H v M ∧ M.Ok ∧ n ≤ 60 ∧
  ∀ (l : Addr) (rws : List V) (H' : Hp), Same H H' → H' l = some (.lst rws) → Rows H' rws ((List.range (n / 2 + 1)).map fun j => crow M (n % 2 + 2 * j)) → Q (.ref l) H'
abbrev NCI : List Str := ["machine", "long", "letters", "moves", "ends", "middles", "counts", "end", "row", "rows", "pairs", "goal"]
theorem scCI : FnScope NCI ["machine", "long"] (defScope (top 30)) := ⟨rfl, rfl, rfl, by decide +kernel, rfl, by decide +kernel, by decide +kernel⟩
set_option maxHeartbeats 1000000 in
theorem ok_countsin {f : Addr} {fd : FuncData} (D : Def K mg "counts_inside" (top 30) ["machine", "long"] f fd) (T : BI mg) (Tsum : mg "sum" = none) :
    FnOk P w K mg base CX0 1 f fd ["machine", "long"] spCountsIn := by
  refine D.F.ok scCI (fun vs H Q E h => ?_) (fun cdv A outer s H vs Q E hr h => ?_)
  · obtain ⟨v, M, n, rfl, _⟩ := h; rfl
  · obtain ⟨v, M, n, rfl, ⟨a, pm, pe, pq, rs, qs, rfl, h1, h2, h3, h4, h5, h6⟩, ok, hn, kk⟩ := h
    refine ⟨_, (pss_cons (ps_asg (pv 0) (pg_tup (by rfl) (pgs_cons (pg_name (i := 2) scCI.nd rfl (Or.inl rfl)) (pgs_cons (pg_name (i := 3) scCI.nd rfl (Or.inl rfl)) (pgs_cons (pg_name (i := 4) scCI.nd rfl (Or.inl rfl)) (pgs_cons (pg_name (i := 5) scCI.nd rfl (Or.inl rfl)) pgs_nil))))))
      (pss_cons (ps_set (i := 6) scCI.nd rfl (Or.inr rfl) (pe_joinE (pe_ifExp (pt_cmp (pc_eqI (pe_op op_mod (pv 1) pe_int) pe_int)) (pe_lc (own := [("end", 7)]) (g := (gName 7)) (by rfl) scCI.nd (pi_list (pv 4))
          (blkOk_by (own := [("end", 7)]) (N := NCI) (sc := defScope (top 30)) (by decide +kernel))
          (fun _ _ _ _ _ => (pg_name (i := 7) scCI.nd rfl (Or.inl rfl))) (fun _ _ _ _ _ => pts_nil) (fun _ _ _ _ _ => (pe_callTy call_int1 (by rfl) T.int (by decide +kernel) (pa_cons (pv 7) pa_nil)))) (pe_lc (own := [("row", 8)]) (g := (gName 8)) (by rfl) scCI.nd (pi_list (pv 5))
          (blkOk_by (own := [("row", 8)]) (N := NCI) (sc := defScope (top 30)) (by decide +kernel))
          (fun _ _ _ _ _ => (pg_name (i := 8) scCI.nd rfl (Or.inl rfl))) (fun _ _ _ _ _ => pts_nil) (fun _ _ _ _ _ => (pe_callB (cr_sumBK K rfl) (by rfl) Tsum (by decide +kernel) (pa_cons (pv 8) pa_nil)))))))
      (pss_cons (ps_set (i := 9) scCI.nd rfl (Or.inl rfl) (pe_lst (pa_cons (pv 6) pa_nil)))
      (pss_cons (ps_for PassesOwn.never rfl (pi_range1 (by rfl) T.range (pa_cons (pe_op op_fdiv (pv 1) pe_int) pa_nil)) (pg_name (i := 10) scCI.nd rfl (Or.inl rfl))
        (pss_cons (ps_set (i := 6) scCI.nd rfl (Or.inr rfl) (pe_lc (own := [("row", 8)]) (g := (gName 8)) (by rfl) scCI.nd (pi_list (pv 3))
          (blkOk_by (own := [("row", 8)]) (N := NCI) (sc := defScope (top 30)) (by decide +kernel))
          (fun _ _ _ _ _ => (pg_name (i := 8) scCI.nd rfl (Or.inl rfl))) (fun _ _ _ _ _ => pts_nil) (fun _ _ _ _ _ => (pe_callB (cr_sumK K rfl) (by rfl) Tsum (by decide +kernel) (pa_cons (pe_lc (own := [("goal", 11)]) (g := (gName 11)) (by rfl) scCI.nd (pi_listK K (pv 8))
          (blkOk_by (own := [("goal", 11)]) (N := NCI) (sc := relabel (scpE (stE (stN (stB (stN (defBody (top 30)) 3)) 0)) (defScope (top 10))) (env0 (defScope (top 30)))) (by decide +kernel))
          (fun _ _ _ _ _ => (pg_name (i := 11) scCI.nd rfl (Or.inl rfl))) (fun _ _ _ _ _ => pts_nil) (fun _ _ _ _ _ => (pe_ix (ix_listK K) (pv 6) (pv 11) (fun _ _ => rfl)))) pa_nil)))))
        (pss_one (ps_expr (pe_bm PySem.F.plainAttrs_list PySem.F.slot_list_append PySem.F.type_list_append mt_append (pv 9) (pa_cons (pv 6) pa_nil))))))
      (pss_one (ps_ret (pv 9))))))), ?_⟩
    have hn40 := ok.n40
    have hrl : rs.length = M.moves.length := by rw [h3.len, List.length_map]
    have hql : qs.length = M.mids.length := by rw [h6.len, List.length_map]
    have hmd := ok.mids
    have hen := ok.ends
    refine ⟨_, rfl, a, _, rfl, SqT.of h1, rfl, _, _, rfl, _, _, rfl, _, _, rfl, _, _, rfl, rfl, ?_⟩
    -- the innermost counts
    refine ⟨fun v H' => ∃ l, v = .ref l ∧ Same H H' ∧ H l = none ∧ H' l = some (.lst (crow M (n % 2))), ?_, ?_⟩
    · refine ⟨_, rfl, _, _, rfl, rfl, by show (0 : Int) < 2; decide, _, _, rfl, rfl, _, rfl, ite2D (fun hc => ?_) (fun hc => ?_)⟩
      · have hz : n % 2 = 0 := by have : ((n : Nat) : Int) % 2 = 0 := hc; omega
        refine ⟨_, rfl, pe, rfl, ⟨_, SqL.of h4⟩, fun D1 hD1 => lc_list (K := K) (a := pe) (xs := vB M.ends) (fun i H' => Tak H D1 (crow M (n % 2)) i H') (Tak.start hD1) (fun i H' _ h => SqL.of (h.1 _ _ h4)) ?_ ?_⟩
        · rintro i v H1 hv hT
          have hi : i < M.ends.length := by have := (List.getElem?_eq_some_iff.mp hv).1; simpa using this
          have ee : M.ends[i]? = some (M.fin i) := Mach.fin_at ok (by show i < M.moves.length; omega)
          rw [List.getElem?_map, ee] at hv
          cases Option.some.inj hv
          refine ⟨rfl, yesT ?_⟩
          refine ⟨_, rfl, .inr ⟨_, rfl, Tak.next hD1 hT (Same.refl _) ?_ (by rw [crow_len]; omega)⟩⟩
          rw [hz, crow_at (by omega)]
          show some (V.int (((if M.fin i = true then 1 else 0) : Nat) : Int)) = _
          cases M.fin i <;> rfl
        · intro H1 hT
          obtain ⟨s1, e1⟩ := hT.all (by rw [crow_len, List.length_map]; omega)
          exact ⟨D1, rfl, s1, hD1, e1⟩
      · have hz : n % 2 = 1 := by have : ¬ ((n : Nat) : Int) % 2 = 0 := hc; omega
        refine ⟨_, rfl, pq, rfl, ⟨_, SqL.of h5⟩, fun D1 hD1 => lc_list (K := K) (a := pq) (xs := qs) (fun i H' => Tak H D1 (crow M (n % 2)) i H') (Tak.start hD1) (fun i H' _ h => SqL.of (h.1 _ _ h5)) ?_ ?_⟩
        · rintro i v H1 hv hT
          have hi : i < qs.length := (List.getElem?_eq_some_iff.mp hv).1
          obtain ⟨q, xs, rfl, hx, hq⟩ := h6.to hv
          have hm : i < M.mids.length := by omega
          rw [List.getElem?_map, List.getElem?_eq_getElem hm] at hx
          cases Option.some.inj hx
          refine ⟨rfl, yesT ?_⟩
          refine ⟨_, rfl, q, _, rfl, SqL.of (hT.1 _ _ hq), Tak.next hD1 hT (Same.refl _) ?_ (by rw [crow_len]; omega)⟩
          rw [hz, crow_at (by omega)]
          show some (V.int (((M.mids.getD i []).count true : Nat) : Int)) = _
          rw [List.getD_eq_getElem?_getD, List.getElem?_eq_getElem hm, Option.getD_some]
        · intro H1 hT
          obtain ⟨s1, e1⟩ := hT.all (by rw [crow_len]; omega)
          exact ⟨D1, rfl, s1, hD1, e1⟩
    rintro v H1 ⟨lc, rfl, s1, hlc, e1⟩
    -- rows = [counts]
    refine ⟨_, rfl, by show 1 ≤ sizeLine; decide, fun lr hlr => ?_⟩
    have hlr0 : H lr = none := s1.free hlr
    have ner : lc ≠ lr := ne_of_none e1 hlr
    have tt : (((n : Nat) : Int) / 2).toNat = n / 2 := by omega
    refine ⟨_, rfl, _, _, rfl, rfl, ⟨by decide, by decide⟩, ((n : Int) / 2), rfl, by omega, by omega, for_range (lo := 0) (n := ((n : Int) / 2).toNat) (fun i σ H' => ∃ (lc : Addr) (rws : List V) (o10 : Option V),
      σ = [some (.ref a), some (.int (n : Int)), some (.str M.letters), some (.ref pm), some (.ref pe), some (.ref pq), some (.ref lc), none, none, some (.ref lr), o10, none] ∧ Same H H' ∧ H lc = none ∧ lc ≠ lr ∧ H' lc = some (.lst (crow M (n % 2 + 2 * i))) ∧
      H' lr = some (.lst rws) ∧ Rows (msk H' [lr]) rws ((List.range (i + 1)).map fun j => crow M (n % 2 + 2 * j)))
      ⟨lc, [.ref lc], none, rfl, s1.trans (Same.upd hlr), hlc, ner, by rw [upd_ne ner]; exact e1, upd_same, ?_⟩ ?_ ?_⟩
    · refine .cons ⟨lc, rfl, ?_⟩ .nil
      rw [msk_at (fun z => ner (List.mem_singleton.mp z)), upd_ne ner]
      exact e1
    · rintro i σ H2 hi ⟨lc2, rws, o10, rfl, s2, hlc2, ner2, e2, er2, R2⟩
      rw [tt] at hi
      have hrw : rws.length = i + 1 := by rw [R2.len, List.length_map, List.length_range]
      -- counts, one pair more
      refine ⟨_, rfl, pm, rfl, ⟨_, SqL.of (s2 _ _ h2)⟩, fun D1 hD1 => lc_list (K := K) (a := pm) (xs := rs) (fun j H' => Tak H2 D1 (crow M (n % 2 + 2 * (i + 1))) j H') (Tak.start hD1) (fun j H' _ h => SqL.of (h.1 _ _ (s2 _ _ h2))) ?_ ?_⟩
      · rintro j v H3 hv hT
        have hj : j < rs.length := (List.getElem?_eq_some_iff.mp hv).1
        obtain ⟨q, xs, rfl, hx, hq⟩ := h3.to hv
        have hm : j < M.moves.length := by omega
        have er : M.moves[j]? = some (M.row j) := (Mach.row_len ok hm).2.2
        rw [List.getElem?_map, er] at hx
        cases Option.some.inj hx
        obtain ⟨r1, r2, _⟩ := Mach.row_len ok hm
        have hk9 : M.k * M.k ≤ 9 := Nat.mul_le_mul ok.let_.k3 ok.let_.k3
        have hq3 := hT.1 _ _ (s2 _ _ hq)
        refine ⟨rfl, yesT ?_⟩
        refine ⟨_, rfl, q, rfl, ⟨_, SqL.of hq3⟩, fun D2 hD2 => lc_list (K := K) (a := q) (xs := vI (M.row j)) (fun t H' => Tak H3 D2 ((M.row j).map fun g => V.int ((M.cnt (n % 2 + 2 * i) g : Nat) : Int)) t H') (Tak.start hD2) (fun t H' _ h => SqL.of (h.1 _ _ hq3)) ?_ ?_⟩
        · rintro t v H4 hv' hT4
          have ht : t < (M.row j).length := by have := (List.getElem?_eq_some_iff.mp hv').1; simpa using this
          rw [List.getElem?_map, List.getElem?_eq_getElem ht] at hv'
          cases Option.some.inj hv'
          refine ⟨rfl, yesT ?_⟩
          refine ⟨_, rfl, _, rfl, lc2, _, _, _, rfl, rfl, SqL.of (hT4.1 _ _ (hT.1 _ _ e2)), atI_nat (crow_at (r2 _ (List.getElem_mem ht))), Tak.next hD2 hT4 (Same.refl _) ?_ (by rw [List.length_map]; omega)⟩
          rw [List.getElem?_map, List.getElem?_eq_getElem ht]; rfl
        · intro H4 hT4
          obtain ⟨s4, e4⟩ := hT4.all (by rw [List.length_map, List.length_map]; omega)
          have e4' : H4 D2 = some (.lst (((M.row j).map fun g => ((M.cnt (n % 2 + 2 * i) g : Nat) : Int)).map V.int)) := by rw [e4, List.map_map]; rfl
          refine ⟨D2, _, rfl, SqL.of e4', Tak.next hD1 hT s4 ?_ (by rw [crow_len]; omega)⟩
          rw [crow_at hm, sum_cast]
          rfl
      · intro H3 hT
        obtain ⟨s3, e3⟩ := hT.all (by rw [crow_len]; omega)
        have neD : D1 ≠ lr := Ne.symm (ne_of_none er2 hD1)
        refine ⟨_, rfl, .inl ⟨rfl, _, SqL.of (s3 _ _ er2)⟩, _, rfl, lr, _, _, rfl, rfl, s3 _ _ er2, by rw [hrw]; exact sz_lt (by omega), ?_⟩
        refine ⟨D1, rws ++ [.ref D1], _, rfl, Same.put (s2.trans s3) hlr0, s2.free hD1, neD, by rw [upd_ne neD]; exact e3, upd_same, ?_⟩
        rw [msk_upd (List.mem_singleton.mpr rfl), List.range_succ, List.map_append]
        exact RowsM.snoc (R2.same (msk_same s3)) (fun z => neD (List.mem_singleton.mp z)) e3
    · rintro σ H2 ⟨lc2, rws, o10, rfl, s2, hlc2, ner2, e2, er2, R2⟩
      rw [tt] at R2
      exact ⟨_, rfl, kk lr rws H2 s2 er2 (R2.same msk_le)⟩
/-! ### how_many -/
def spHowMany : Sp := fun vs H Q _ => ∃ (v : V) (M : Mach) (n : Nat), vs = [v, .int (n : Int)] ∧ MAt H v M ∧ M.Ok ∧ n ≤ 60 ∧ ∀ H', Same H H' → Q (.int ((M.cnt n 0 : Nat) : Int)) H'
theorem scHM : FnScope ["machine", "long"] ["machine", "long"] (defScope (top 32)) := ⟨rfl, rfl, rfl, by decide +kernel, rfl, by decide +kernel, by decide +kernel⟩
set_option maxHeartbeats 1000000 in
theorem ok_howmany {f f15 fCL fCI : Addr} {fd fd15 fdCL fdCI : FuncData} (D : Def K mg "how_many" (top 32) ["machine", "long"] f fd) (T : BI mg) (C : CO mg)
    (D15 : Def K mg "check_machine" (top 20) ["machine"] f15 fd15) (G15 : FnOk P w K mg base CX0 6 f15 fd15 ["machine"] spCheckMachine)
    (DCL : Def K mg "check_length" (top 22) ["long", "fewest", "most"] fCL fdCL) (GCL : FnOk P w K mg base CX0 2 fCL fdCL ["long", "fewest", "most"] spCheckLength)
    (DCI : Def K mg "counts_inside" (top 30) ["machine", "long"] fCI fdCI) (GCI : FnOk P w K mg base CX0 1 fCI fdCI ["machine", "long"] spCountsIn) :
    FnOk P w K mg base CX0 7 f fd ["machine", "long"] spHowMany := by
  refine D.F.ok scHM (fun vs H Q E h => ?_) (fun cdv A outer s H vs Q E hr h => ?_)
  · obtain ⟨v, M, n, rfl, _⟩ := h; rfl
  · obtain ⟨v, M, n, rfl, hM, ok, hn, kk⟩ := h
    obtain ⟨t_MOST_OF_WORD, e_MOST_OF_WORD⟩ := C.mw
    refine ⟨_, (pss_cons (ps_expr (pe_call G15 (hr.mono (by decide)) (by rfl) D15.m D15.F.kp D15.b .nil pass0 (pa_cons (pv 0) pa_nil)))
      (pss_cons (ps_expr (pe_call GCL (hr.mono (by decide)) (by rfl) DCL.m DCL.F.kp DCL.b .nil pass0 (pa_cons (pv 1) (pa_cons pe_int (pa_cons (pe_glob (v := .int 60) (by rfl) e_MOST_OF_WORD ⟨_, rfl⟩) pa_nil)))))
      (pss_one (ps_ret (pe_ix ix_list (pe_ix ix_list (pe_call GCI (hr.mono (by decide)) (by rfl) DCI.m DCI.F.kp DCI.b .nil pass0 (pa_cons (pv 0) (pa_cons (pv 1) pa_nil))) (pe_un un_neg pe_int) (fun _ _ => rfl)) pe_int (fun _ _ => rfl)))))), ?_⟩
    refine ⟨_, rfl, _, M, rfl, hM, ok, fun H1 s1 => ?_⟩
    refine ⟨_, rfl, _, _, _, rfl, by omega, by omega, ?_⟩
    refine ⟨_, rfl, _, rfl, _, M, n, rfl, hM.same s1, ok, hn, fun l rws H2 s2 e2 R2 => ?_⟩
    have hl : rws.length = n / 2 + 1 := by rw [R2.len, List.length_map, List.length_range]
    have eR : ((List.range (n / 2 + 1)).map fun j => crow M (n % 2 + 2 * j))[n / 2]? = some (crow M n) := by
      rw [List.getElem?_map, List.getElem?_range (by omega)]
      show some (crow M (n % 2 + 2 * (n / 2))) = _
      rw [show n % 2 + 2 * (n / 2) = n by omega]
    obtain ⟨p, hp, hpl⟩ := R2.at eR
    refine ⟨_, rfl, l, rws, _, _, rfl, rfl, SqL.of e2, (by rw [at_neg1 (by omega), hl]; exact hp), p, _, _, _, rfl, rfl, SqL.of hpl, atI_nat (j := 0) (crow_at ok.n1), kk H2 (s1.trans s2)⟩
/-! ### others -/
end
end Be

namespace Be
open PySem L2
def mkS (w : List Nat) : Str := ⟨w.toArray⟩
theorem mkS_list (w : List Nat) : (mkS w).cps.toList = w := by unfold mkS; exact List.toList_toArray
theorem mkS_size (w : List Nat) : (mkS w).cps.size = w.length := by unfold mkS; simp
theorem mkS_app (w : List Nat) (c : Nat) : mkS w ++ (⟨#[c]⟩ : Str) = mkS (w ++ [c]) := by
  have h := app_list (mkS w) ⟨#[c]⟩
  rw [mkS_list] at h
  generalize mkS w ++ (⟨#[c]⟩ : Str) = z at h
  obtain ⟨z⟩ := z
  unfold mkS
  congr 1
  rw [← Array.toArray_toList (xs := z)]
  exact congrArg List.toArray h
theorem msk_more {H H' : Hp} {S : List Addr} {l : Addr} (s : Same H H') (hl : H l = none) : Same (msk H S) (msk H' (S ++ [l])) := fun b o e => by
  by_cases hb : b ∈ S
  · unfold msk at e; rw [if_pos hb] at e; cases e
  · rw [msk_at hb] at e
    have hbl : b ≠ l := ne_of_none e hl
    rw [msk_at (fun z => by rcases List.mem_append.mp z with z | z; exact hb z; exact hbl (List.mem_singleton.mp z))]
    exact s _ _ e
abbrev vT (ws : List (List Nat)) : List V := ws.map fun w => V.str (mkS w)
section
variable {P : Program} {w : World} {K : PySem.W.Frag} {mg : Str → Option Value} {base : Heap}
/-! ### _law_texts, all of them in order -/
def spTextsX : Sp := fun vs H Q _ => ∃ (L : Str) (t : Nat), vs = [.str L, .int (t : Int)] ∧ LetOk L ∧ t ≤ 6 ∧
  ∀ (l : Addr) (H' : Hp), Same H H' → H l = none → H' l = some (.lst (vT (textsL L.cps.toList t))) → Q (.ref l) H'
theorem textsL_le {L : Str} (hL : LetOk L) {t : Nat} (ht : t ≤ 6) : (textsL L.cps.toList t).length ≤ 729 := by
  rw [textsL_len, Array.length_toList]
  calc L.cps.size ^ t ≤ 3 ^ t := Nat.pow_le_pow_left hL.k3 t
    _ ≤ 3 ^ 6 := Nat.pow_le_pow_right (by decide) ht
set_option maxHeartbeats 1000000 in
theorem ok_textsX {f : Addr} {fd : FuncData} (D : Def K mg "_law_texts" (top 43) ["_law_letters_here", "_law_long"] f fd) (T : BI mg) : FnOk P w K mg base CX0 1 f fd ["_law_letters_here", "_law_long"] spTextsX := by
  refine D.F.ok sc35 (fun vs H Q E h => ?_) (fun cdv A outer s H vs Q E hr h => ?_)
  · obtain ⟨L, t, rfl, _⟩ := h; rfl
  · obtain ⟨L, t, rfl, hL, ht, kk⟩ := h
    refine ⟨_, (pss_cons (ps_set (i := 2) sc35.nd rfl (Or.inl rfl) (pe_lst (pa_cons pe_str pa_nil)))
      (pss_cons (ps_for PassesOwn.never rfl (pi_range1 (by rfl) T.range (pa_cons (pv 1) pa_nil)) (pg_name (i := 3) sc35.nd rfl (Or.inl rfl))
        (pss_cons (ps_set (i := 4) sc35.nd rfl (Or.inl rfl) (pe_lst pa_nil))
      (pss_cons (ps_for PassesOwn.never rfl (pi_list (pv 2)) (pg_name (i := 5) sc35.nd rfl (Or.inr rfl))
        (pss_one (ps_expr (pe_bm PySem.F.plainAttrs_list PySem.F.slot_list_extend PySem.F.type_list_extend mt_extend (pv 4) (pa_cons (pe_lc (own := [("_law_letter", 6)]) (g := gName 6) (by rfl) sc35.nd (pi_str (pv 0))
          (blkOk_by (own := [("_law_letter", 6)]) (N := NT) (sc := (defScope (top 43))) (by decide +kernel))
          (fun _ _ _ _ _ => (pg_name (i := 6) sc35.nd rfl (Or.inl rfl))) (fun _ _ _ _ _ => pts_nil) (fun _ _ _ _ _ => (pe_op op_add_str (pv 5) (pv 6)))) pa_nil)))))
      (pss_one (ps_set (i := 2) sc35.nd rfl (Or.inl rfl) (pv 4))))))
      (pss_one (ps_ret (pv 2))))), ?_⟩
    have k1 := hL.k1
    have k3 := hL.k3
    have hkL : L.cps.toList.length = L.cps.size := Array.length_toList
    refine ⟨by show 1 ≤ sizeLine; decide, fun l0 hl0 => ?_⟩
    have tt : ((t : Int)).toNat = t := Int.toNat_natCast t
    refine ⟨_, rfl, (t : Int), rfl, by omega, by omega, for_range (lo := 0) (n := ((t : Int)).toNat) (fun i σ H' => ∃ (lf : Addr) (o3 o4 o5 : Option V), σ = [some (.str L), some (.int (t : Int)), some (.ref lf), o3, o4, o5, none] ∧ Same H H' ∧ H lf = none ∧ H' lf = some (.lst (vT (textsL L.cps.toList i))))
      ⟨l0, none, none, none, rfl, Same.upd hl0, hl0, upd_same⟩ ?_ ?_⟩
    · rintro i σ H1 hi ⟨lf, o3, o4, o5, rfl, s1, hlf, e1⟩
      rw [tt] at hi
      have hle : (textsL L.cps.toList i).length ≤ 729 := textsL_le hL (by omega)
      have hle1 : (textsL L.cps.toList (i + 1)).length ≤ 729 := textsL_le hL (by omega)
      have hsz : ∀ y ∈ textsL L.cps.toList i, y.length = i := fun y hy => (textsL_mem hy).1
      have hdef : textsL L.cps.toList (i + 1) = (textsL L.cps.toList i).flatMap fun y => L.cps.toList.map fun c => y ++ [c] := rfl
      generalize textsL L.cps.toList i = ys at *
      -- longer = []
      refine ⟨by show 0 ≤ sizeLine; decide, fun ln hln => ?_⟩
      have nln : lf ≠ ln := ne_of_none e1 hln
      have hln0 : H ln = none := s1.free hln
      have e1' : (upd H1 ln (.lst [])) lf = some (.lst (vT ys)) := by rw [upd_ne nln]; exact e1
      refine ⟨_, rfl, lf, rfl, ⟨_, SqL.of e1'⟩, for_list (K := K) (a := lf) (xs := vT ys) (fun j σ H' => ∃ (o5 : Option V), σ = [some (.str L), some (.int (t : Int)), some (.ref lf), some (.int (0 + (i : Int))), some (.ref ln), o5, none] ∧ Same H H' ∧ H' lf = some (.lst (vT ys)) ∧ H' ln = some (.lst (vT ((ys.take j).flatMap fun y => L.cps.toList.map fun c => y ++ [c]))))
        ⟨o5, rfl, Same.put s1 hln0, e1', upd_same⟩ (fun j σ H' _ ⟨_, _, _, q, _⟩ => SqL.of q) ?_ ?_⟩
      · rintro j v σ H2 hv ⟨o5, rfl, s2, f1, f2⟩
        have hj : j < ys.length := by have := (List.getElem?_eq_some_iff.mp hv).1; simpa using this
        rw [List.getElem?_map, List.getElem?_eq_getElem hj] at hv
        cases Option.some.inj hv
        have hys := hsz _ (List.getElem_mem hj)
        have htk : (ys.take (j + 1)).flatMap (fun y => L.cps.toList.map fun c => y ++ [c]) = (ys.take j).flatMap (fun y => L.cps.toList.map fun c => y ++ [c]) ++ L.cps.toList.map fun c => ys[j] ++ [c] := by
          rw [List.take_succ_eq_append_getElem hj, List.flatMap_append, List.flatMap_singleton]
        have hlen : ((ys.take j).flatMap fun y => L.cps.toList.map fun c => y ++ [c]).length ≤ 3 * j := by
          rw [List.length_flatMap]
          have : (ys.take j).map (fun y => (L.cps.toList.map fun c => y ++ [c]).length) = (ys.take j).map fun _ => L.cps.size := by
            congr 1; funext y; rw [List.length_map, hkL]
          rw [this, List.map_const', List.sum_replicate_nat, List.length_take]
          calc min j ys.length * L.cps.size ≤ j * 3 := Nat.mul_le_mul (Nat.min_le_left _ _) k3
            _ = 3 * j := Nat.mul_comm _ _
        generalize ys[j] = y at hys htk ⊢
        refine ⟨_, rfl, .inl ⟨rfl, _, SqL.of f2⟩, _, rfl, L, rfl, fun Dc hDc => lc_it (n := L.cps.size) (fun m Hz => Tak H2 Dc (vT (L.cps.toList.map fun c => y ++ [c])) m Hz)
          (Tak.start hDc) (fun m Hz hm _ => hm) (fun Hz _ => Nat.le_refl _) ?_ ?_⟩
        · rintro m v Hz Hz' hm hT ⟨rfl, c, hc, rfl⟩
          refine ⟨rfl, yesT ?_⟩
          refine ⟨_, rfl, _, rfl, _, _, rfl, rfl, sz_le (by show (mkS y).cps.size + 1 ≤ _; rw [mkS_size]; omega), ?_⟩
          refine Tak.next hDc hT (Same.refl _) ?_ (by rw [List.length_map, List.length_map]; omega)
          rw [mkS_app, List.getElem?_map, List.getElem?_map, Array.getElem?_toList, hc]; rfl
        · rintro Hz hT
          obtain ⟨sz, q1⟩ := hT.all (by rw [List.length_map, List.length_map]; omega)
          have nlD : ln ≠ Dc := ne_of_none f2 hDc
          refine ⟨ln, Dc, _, _, rfl, rfl, sz _ _ f2, q1, by rw [List.length_map, List.length_map, List.length_map]; exact sz_le (by omega), ?_⟩
          refine ⟨_, rfl, Same.put (s2.trans sz) hln0, by rw [upd_ne nln]; exact sz _ _ f1, ?_⟩
          rw [upd_same, htk]
          show some (HO.lst (vT _ ++ vT _)) = some (HO.lst (vT (_ ++ _)))
          unfold vT
          rw [List.map_append]
      · rintro σ H2 ⟨o5, rfl, s2, f1, f2⟩
        rw [List.length_map, List.take_length] at f2
        exact ⟨_, rfl, ln, _, _, _, rfl, s2, hln0, by rw [hdef]; exact f2⟩
    · rintro σ H1 ⟨lf, o3, o4, o5, rfl, s1, hlf, e1⟩
      rw [tt] at e1
      exact ⟨_, rfl, kk lf H1 s1 hlf e1⟩
/-! ### _law_row -/
end
end Be

namespace Be
open PySem L2
section
variable {P : Program} {w : World} {K : PySem.W.Frag} {mg : Str → Option Value} {base : Heap}
end
end Be

namespace Be
open PySem L2
/-! ### numbers: mathematics -/
theorem LetOk.up' {x : Str} (h : LetOk x) : x.cps.toList.Pairwise (· < ·) := by
  have k1 := h.k1
  have k3 := h.k3
  have hl : x.cps.toList.length = x.cps.size := Array.length_toList
  have up : ∀ i c d, x.cps.toList[i]? = some c → x.cps.toList[i + 1]? = some d → c < d := fun i c d h1 h2 => by
    rw [Array.getElem?_toList] at h1 h2; exact h.up i c d h1 h2
  generalize x.cps.toList = l at hl up
  match l, hl with
  | [a], _ => simp
  | [a, b], _ =>
    have h1 := up 0 a b rfl rfl
    simp; omega
  | [a, b, c], _ =>
    have h1 := up 0 a b rfl rfl
    have h2 := up 1 b c rfl rfl
    simp; omega
  | [], e => simp at e; omega
  | _ :: _ :: _ :: _ :: _, e => simp at e; omega
theorem textsL_up {L : List Nat} (h : L.Pairwise (· < ·)) : ∀ t, (textsL L t).Pairwise (· < ·)
  | 0 => by show [[]].Pairwise (· < ·); simp
  | t + 1 => by
    have ih := textsL_up h t
    rw [textsL_cons, List.pairwise_flatMap]
    refine ⟨fun a _ => ?_, h.imp fun {a b} hab x hx y hy => ?_⟩
    · rw [List.pairwise_map]
      exact ih.imp fun {u v} huv => List.cons_lt_cons_iff.mpr (.inr ⟨rfl, huv⟩)
    · obtain ⟨u, _, rfl⟩ := List.mem_map.mp hx
      obtain ⟨v, _, rfl⟩ := List.mem_map.mp hy
      exact List.cons_lt_cons_iff.mpr (.inl hab)
theorem textsL_in {L : List Nat} : ∀ {w : List Nat}, (∀ c ∈ w, c ∈ L) → w ∈ textsL L w.length
  | [], _ => by show [] ∈ [[]]; simp
  | c :: w, h => by
    rw [List.length_cons, textsL_cons, List.mem_flatMap]
    exact ⟨c, h c (List.mem_cons_self ..), List.mem_map.mpr ⟨w, textsL_in fun d hd => h d (List.mem_cons_of_mem _ hd), rfl⟩⟩
/-- how many words of n letters that begin so are had from q on -/
def pcq (M : Mach) (q n : Nat) (b : List Nat) : Nat := (textsL M.L (n - b.length)).countP fun w => M.hasAt q (b ++ w)
/-- what the words of n letters that are had go on with behind a beginning, in order -/
def pw (M : Mach) (n : Nat) (b : List Nat) : List (List Nat) := (textsL M.L (n - b.length)).filter fun w => M.hasAt 0 (b ++ w)
theorem pw_len (M : Mach) (n : Nat) (b : List Nat) : (pw M n b).length = pcq M 0 n b := by
  unfold pw pcq
  rw [List.countP_eq_length_filter]
theorem pw_up {M : Mach} (h : LetOk M.letters) (n : Nat) (b : List Nat) : (pw M n b).Pairwise (· < ·) := (textsL_up h.up' _).filter _
theorem pw_split {M : Mach} {n : Nat} {b : List Nat} (h : b.length < n) : pw M n b = M.L.flatMap fun c => (pw M n (b ++ [c])).map fun w => c :: w := by
  unfold pw
  obtain ⟨t, ht⟩ : ∃ t, n - b.length = t + 1 := ⟨n - b.length - 1, by omega⟩
  rw [ht, textsL_cons, List.filter_flatMap]
  congr 1
  funext c
  have e : n - (b ++ [c]).length = t := by rw [List.length_append]; show n - (b.length + 1) = t; omega
  rw [e, List.filter_map]
  congr 2
  funext w
  show M.hasAt 0 (b ++ c :: w) = M.hasAt 0 ((b ++ [c]) ++ w)
  rw [List.append_assoc]; rfl
theorem pw_end {M : Mach} {n : Nat} {b : List Nat} (h : b.length = n) : pw M n b = if M.hasAt 0 b = true then [[]] else [] := by
  unfold pw
  rw [h, Nat.sub_self]
  show [[]].filter _ = _
  rw [List.filter_cons, List.append_nil]
  split <;> rfl
theorem pw_mem {M : Mach} {n : Nat} {b w : List Nat} : w ∈ pw M n b ↔ w.length = n - b.length ∧ (∀ c ∈ w, c ∈ M.L) ∧ M.hasAt 0 (b ++ w) = true := by
  unfold pw
  rw [List.mem_filter]
  constructor
  · rintro ⟨h1, h2⟩
    obtain ⟨h3, h4⟩ := textsL_mem h1
    exact ⟨h3, h4, h2⟩
  · rintro ⟨h1, h2, h3⟩
    exact ⟨h1 ▸ textsL_in h2, h3⟩
/-- how many had words are ahead of one -/
def num (M : Mach) (n : Nat) : List Nat → List Nat → Nat
  | _, [] => 0
  | b, c :: r => ((M.L.take (M.ix c)).map fun d => pcq M 0 n (b ++ [d])).sum + num M n (b ++ [c]) r
theorem len_flat {M : Mach} {n : Nat} {b : List Nat} : ∀ l : List Nat, (l.flatMap fun c => (pw M n (b ++ [c])).map fun w => c :: w).length = (l.map fun d => pcq M 0 n (b ++ [d])).sum
  | [] => rfl
  | c :: l => by rw [List.flatMap_cons, List.length_append, len_flat l, List.map_cons, List.sum_cons, List.length_map, pw_len]
theorem split_ix {M : Mach} {c : Nat} (h : c ∈ M.L) : M.L = M.L.take (M.ix c) ++ c :: M.L.drop (M.ix c + 1) := by
  have hl := List.idxOf_lt_length_of_mem h
  have e : M.L[M.L.idxOf c] = c := List.getElem_idxOf hl
  conv => lhs; rw [← List.take_append_drop (M.ix c) M.L]
  congr 1
  show M.L.drop (M.L.idxOf c) = _
  rw [List.drop_eq_getElem_cons hl, e]; rfl
theorem num_at {M : Mach} {n : Nat} : ∀ (r b : List Nat), b.length + r.length = n → (∀ c ∈ r, c ∈ M.L) → M.hasAt 0 (b ++ r) = true → (pw M n b)[num M n b r]? = some r
  | [], b, h, _, hh => by
    rw [List.append_nil] at hh
    rw [pw_end (by simpa using h), hh]; rfl
  | c :: r, b, h, ho, hh => by
    have hc := ho c (List.mem_cons_self ..)
    have hlt : b.length < n := by rw [List.length_cons] at h; omega
    have ih := num_at (M := M) (n := n) r (b ++ [c]) (by rw [List.length_append]; rw [List.length_cons] at h; show b.length + 1 + r.length = n; omega) (fun d hd => ho d (List.mem_cons_of_mem _ hd)) (by rw [List.append_assoc]; exact hh)
    rw [pw_split hlt]
    show (M.L.flatMap _)[((M.L.take (M.ix c)).map fun d => pcq M 0 n (b ++ [d])).sum + num M n (b ++ [c]) r]? = _
    conv => lhs; arg 1; rw [split_ix hc]
    rw [List.flatMap_append, List.flatMap_cons, ← len_flat, List.getElem?_append_right (Nat.le_add_right ..), Nat.add_sub_cancel_left]
    have hl := (List.getElem?_eq_some_iff.mp ih).1
    rw [List.getElem?_append_left (by rw [List.length_map]; exact hl), List.getElem?_map, ih]; rfl
theorem up_inj {l : List (List Nat)} (h : l.Pairwise (· < ·)) {i j : Nat} {w : List Nat} (hi : l[i]? = some w) (hj : l[j]? = some w) : i = j := by
  obtain ⟨h1, e1⟩ := List.getElem?_eq_some_iff.mp hi
  obtain ⟨h2, e2⟩ := List.getElem?_eq_some_iff.mp hj
  rw [List.pairwise_iff_getElem] at h
  rcases Nat.lt_trichotomy i j with q | q | q
  · have := h i j h1 h2 q
    rw [e1, e2] at this; exact absurd this (List.lt_irrefl w)
  · exact q
  · have := h j i h2 h1 q
    rw [e1, e2] at this; exact absurd this (List.lt_irrefl w)
theorem num_is {M : Mach} (hL : LetOk M.letters) {n i : Nat} {w : List Nat} (h : (pw M n [])[i]? = some w) : num M n [] w = i := by
  obtain ⟨h1, h2, h3⟩ := pw_mem.mp (List.mem_of_getElem? h)
  exact up_inj (pw_up hL n []) (num_at w [] (by simpa using h1) h2 h3) h
/-! ### pairs taken away -/
theorem pcq_full {M : Mach} {q n : Nat} {b : List Nat} (h : b.length = n) : pcq M q n b = if M.hasAt q b = true then 1 else 0 := by
  unfold pcq
  rw [h, Nat.sub_self]
  show [[]].countP _ = _
  rw [List.countP_singleton, List.append_nil]
theorem pcq_pair {M : Mach} {q t a : Nat} {b : List Nat} (h : b.length ≤ t) : pcq M q (t + 2) (a :: b) = (M.L.map fun d => pcq M (M.stp q (a, d)) t b).sum := by
  unfold pcq
  have e : t + 2 - (a :: b).length = (t - b.length) + 1 := by rw [List.length_cons]; omega
  rw [e]
  show ((textsL M.L (t - b.length)).flatMap fun y => M.L.map fun c => y ++ [c]).countP _ = _
  rw [List.countP_flatMap]
  have e2 : (textsL M.L (t - b.length)).map ((List.countP fun w => M.hasAt q (a :: b ++ w)) ∘ fun y => M.L.map fun c => y ++ [c]) = (textsL M.L (t - b.length)).map fun y => M.L.countP ((fun y d => M.hasAt (M.stp q (a, d)) (b ++ y)) y) := by
    refine List.map_congr_left fun y _ => ?_
    show (M.L.map fun c => y ++ [c]).countP _ = _
    rw [List.countP_map]
    congr 1
    funext d
    show M.hasAt q (a :: b ++ (y ++ [d])) = M.hasAt (M.stp q (a, d)) (b ++ y)
    rw [← hasAt_pair]
    congr 1
    simp
  rw [e2, sum_swap]
/-- how many texts at the right lead there -/
def wy (M : Mach) (b : List Nat) : Nat → Nat → Nat
  | 0, q => if q = 0 then 1 else 0
  | j + 1, g => ((List.range M.moves.length).map fun q => wy M b j q * (M.L.countP fun d => decide (M.stp q (b.getD j 0, d) = g))).sum
theorem sum_mul (c : Nat) : ∀ l : List Nat, (l.map fun x => c * x).sum = c * l.sum
  | [] => rfl
  | x :: l => by rw [List.map_cons, List.sum_cons, List.sum_cons, sum_mul c l, Nat.mul_add]
theorem sum_mulR {α : Type} (f : α → Nat) (c : Nat) : ∀ l : List α, (l.map fun x => f x * c).sum = (l.map f).sum * c
  | [] => by simp
  | x :: l => by rw [List.map_cons, List.sum_cons, List.map_cons, List.sum_cons, sum_mulR f c l, Nat.add_mul]
theorem sum_comm {α β : Type} (f : α → β → Nat) (B : List β) : ∀ A : List α, (A.map fun a => (B.map fun b => f a b).sum).sum = (B.map fun b => (A.map fun a => f a b).sum).sum
  | [] => (sum_zero B).symm
  | a :: A => by
    rw [List.map_cons, List.sum_cons, sum_comm f B A, ← sum_map_add]
    congr 1
theorem sum_range_if (F : Nat → Nat) {x n : Nat} (h : x < n) : ((List.range n).map fun g => (if x = g then 1 else 0) * F g).sum = F x := by
  induction n with
  | zero => omega
  | succ n ih =>
    rw [List.range_succ, List.map_append, List.sum_append]
    by_cases e : x = n
    · subst e
      have : ((List.range x).map fun g => (if x = g then 1 else 0) * F g) = (List.range x).map fun _ => 0 := by
        refine List.map_congr_left fun g hg => ?_
        have := List.mem_range.mp hg
        rw [if_neg (by omega), Nat.zero_mul]
      rw [this, sum_zero]
      simp
    · rw [ih (by omega)]
      simp [e]
theorem sum_by {F : Nat → Nat} {n : Nat} {f : Nat → Nat} : ∀ {l : List Nat}, (∀ d ∈ l, f d < n) → (l.map fun d => F (f d)).sum = ((List.range n).map fun g => (l.countP fun d => decide (f d = g)) * F g).sum
  | [], _ => by simp [sum_zero]
  | d :: l, h => by
    rw [List.map_cons, List.sum_cons, sum_by fun e he => h e (List.mem_cons_of_mem _ he), ← sum_range_if F (h d (List.mem_cons_self ..)), ← sum_map_add]
    congr 1
    refine List.map_congr_left fun g _ => ?_
    rw [List.countP_cons, ← Nat.add_mul]
    congr 1
    by_cases e : f d = g
    · simp [e]; omega
    · simp [e]
theorem wy_sum {M : Mach} {Bd : Nat} (ok : M.OkB Bd) {n : Nat} {b : List Nat} (hb : ∀ c ∈ b, c ∈ M.L) : ∀ j, j ≤ b.length → j + b.length ≤ n → pcq M 0 n b = ((List.range M.moves.length).map fun q => wy M b j q * pcq M q (n - 2 * j) (b.drop j)).sum
  | 0, _, _ => by
    have e : ((List.range M.moves.length).map fun q => wy M b 0 q * pcq M q (n - 2 * 0) (b.drop 0)) = (List.range M.moves.length).map fun g => (if 0 = g then 1 else 0) * pcq M g n b := by
      refine List.map_congr_left fun q _ => ?_
      show (if q = 0 then 1 else 0) * _ = _
      by_cases h : q = 0
      · subst h; rfl
      · rw [if_neg h, if_neg (fun z => h z.symm)]; simp
    rw [e, sum_range_if (fun g => pcq M g n b) ok.n1]
  | j + 1, h1, h2 => by
    have ih := wy_sum ok (n := n) hb j (by omega) (by omega)
    rw [ih]
    have hj : j < b.length := by omega
    have ej : b.drop j = b.getD j 0 :: b.drop (j + 1) := by
      rw [List.drop_eq_getElem_cons hj, List.getD_eq_getElem?_getD, List.getElem?_eq_getElem hj]; rfl
    have hbj : b.getD j 0 ∈ M.L := by
      rw [List.getD_eq_getElem?_getD, List.getElem?_eq_getElem hj]; exact hb _ (List.getElem_mem hj)
    have e1 : ((List.range M.moves.length).map fun q => wy M b j q * pcq M q (n - 2 * j) (b.drop j)) = (List.range M.moves.length).map fun q => ((List.range M.moves.length).map fun g => wy M b j q * (M.L.countP fun d => decide (M.stp q (b.getD j 0, d) = g)) * pcq M g (n - 2 * (j + 1)) (b.drop (j + 1))).sum := by
      refine List.map_congr_left fun q hq => ?_
      have hq' := List.mem_range.mp hq
      rw [ej, show n - 2 * j = (n - 2 * (j + 1)) + 2 by omega, pcq_pair (by rw [List.length_drop]; omega),
        sum_by (F := fun g => pcq M g (n - 2 * (j + 1)) (b.drop (j + 1))) (n := M.moves.length) (f := fun d => M.stp q (b.getD j 0, d)) (fun d hd => (Mach.cell ok hq' hbj hd).choose_spec.2.2), ← sum_mul, List.map_map]
      congr 1
      refine List.map_congr_left fun g _ => ?_
      show wy M b j q * (_ * _) = _
      rw [Nat.mul_assoc]
    rw [e1, sum_comm]
    congr 1
    refine List.map_congr_left fun g _ => ?_
    exact sum_mulR _ _ _
end Be

/-! Own classes: what the top has written of them, isinstance of an own class. -/
namespace L2
open PySem PySem.Spec PyProof.Rows
structure Kl (K : PySem.W.Frag) (mg : Str → Option Value) (x : Str) (C : Addr) : Prop where
  m : mg x = some (.ref C)
  cl : Cls K C
  cA : PySem.W.findIn K (.ref C) "__class__" = some (some (.builtin "object.__class__"))
  cN : PySem.W.specialIn K (.builtin "object.__class__") "__get__" = some (some (.builtin "getset_descriptor.__get__"))
  cT : PySem.W.takesIn K (.builtin "object.__class__") = some true
  cM : PySem.W.mroIn K C (.type "object") = some true
theorem Kl.ty {K : PySem.W.Frag} {mg : Str → Option Value} {x : Str} {C : Addr} (k : Kl K mg x C) {H : Hp} {a dx : Addr} {fs : List (Str × V)} (e : H a = some (.ins C dx fs)) : TyOf K H (.ref a) (.ref C) := .ins e k.cl k.cA k.cN k.cT k.cM
def clsB : Stmt → List Stmt
  | .ClassDef _ _ _ b .. => b
  | _ => []
section
variable {X : Cx}
end
end L2

/-! fields within comprehensions; an expression read in two ways -/
namespace L2
open PySem PySem.Spec PyProof.Rows
section
variable {X : Cx}
theorem pe_fldK (K : PySem.W.Frag) {e : Expr} {f : Str} {pos : Pos} {ta : TE} (he : PE X e ta) (hb : attributeBase e f X.env (eval e X.env) = eval e X.env) (hK : X.K = K := by rfl) : PE X (.Attribute e f pos) (tFld K ta f) := by subst hK; exact pe_fld he hb
end
end L2

/-! Comprehensions with two fors. -/
namespace L2
open PySem PySem.Spec PyProof.Rows
end L2

namespace Be
open PySem L2
section
variable {P : Program} {w : World} {K : PySem.W.Frag} {mg : Str → Option Value} {base : Heap}
/-! ### _law_met -/
end
end Be

namespace Be
open PySem L2
section
variable {P : Program} {w : World} {K : PySem.W.Frag} {mg : Str → Option Value} {base : Heap}
/-! ### _law_doubled -/
end
end Be

/-! zip of two lists whose pairs are kept by a name. -/
namespace PySem
open Sem (wp)
section
variable {prog : Program} {w : World} {A : Around} {E : Value → Shared → Prop} {s : Shared}
end
end PySem
namespace L2
open PySem PySem.Spec PyProof.Rows
end L2

namespace Be
open PySem L2
/-! ### tables of pairs -/
abbrev kk2 (n q : Nat) : List Key := [Sum.inl ((q / n : Nat) : Int), Sum.inl ((q % n : Nat) : Int)]
def tbl (n : Nat) (B : Nat → Bool) (m : Nat) : List (List Key × V) := (List.range m).map fun q => (kk2 n q, V.bl (B q))
/-- what is left when no more falls apart -/
structure Shut (M : Mach) (B : Nat → Bool) : Prop where
  obs : ∀ i j, i < M.n → j < M.n → B (i * M.n + j) = false → M.obs i = M.obs j
  go : ∀ i j, i < M.n → j < M.n → B (i * M.n + j) = false → ∀ k, k < M.k * M.k → B (M.go1 i k * M.n + M.go1 j k) = false
theorem Shut.eqs {M : Mach} {Bd : Nat} (ok : M.OkB Bd) {B : Nat → Bool} (h : Shut M B) : ∀ {is : List Nat} {i j : Nat}, i < M.n → j < M.n → B (i * M.n + j) = false → M.Stp is → M.obs (M.go i is) = M.obs (M.go j is)
  | [], i, j, hi, hj, hb, _ => h.obs i j hi hj hb
  | k :: is, i, j, hi, hj, hb, hs => by
    have hk : k < M.k * M.k := hs k List.mem_cons_self
    exact Shut.eqs (is := is) (i := M.go1 i k) (j := M.go1 j k) ok h (Mach.go1_lt ok hi hk) (Mach.go1_lt ok hj hk) (h.go i j hi hj hb k hk) fun x hx => hs x (List.mem_cons_of_mem _ hx)
end Be

namespace L2
open PySem PySem.Spec PyProof.Rows
end L2
namespace Be
open PySem L2
theorem ite2 {c : Bool} {A B : Prop} (h1 : c = true → A) (h2 : ¬ c = true → B) : if c = true then A else B := by
  by_cases h : c = true
  · rw [if_pos h]; exact h1 h
  · rw [if_neg h]; exact h2 h
section
variable {P : Program} {w : World} {K : PySem.W.Frag} {mg : Str → Option Value} {base : Heap}
/-! ### _law_parted -/
end
end Be

namespace Be
open PySem L2
section
variable {P : Program} {w : World} {K : PySem.W.Frag} {mg : Str → Option Value} {base : Heap}
/-! ### _law_is_machine -/
end
end Be

namespace L2
open PySem PySem.Spec PyProof.Rows
section
variable {X : Cx}
/-- range(n) as a thing -/
def rRng1 : List V → Hp → VK → Prop := fun vs H Q => ∃ n : Nat, vs = [.int (n : Int)] ∧ ∀ r, H r = none → Q (.ref r) (upd H r (.rng 0 n))
theorem call_rng1 : CallR X (.type "range") rRng1 := by
  intro pins s σ H vs us Q I r h
  obtain ⟨n, rfl, q⟩ := h
  obtain ⟨u, rfl, ru⟩ := vals1 r
  obtain ⟨t, rfl⟩ := ru
  refine call_range_1 ⟨.ref s.heap.objs.size, _, I.laid (a := s.heap.objs.size) (o := .rng 0 n) (fun b o e => Heap.get?_push_of_some _ e) (Nat.le_refl _) ⟨_, _, _, Heap.get?_push_size _ rfl⟩, rfl, q _ (I.hok.fresh (Nat.le_refl _))⟩
/-- list of a range -/
def rListR : List V → Hp → VK → Prop := fun vs H Q => ∃ (r : Addr) (n : Nat), vs = [.ref r] ∧ H r = some (.rng 0 n) ∧ n ≤ 10000 ∧ ∀ l, H l = none → Q (.ref l) (upd H l (.lst ((List.range n).map fun i : Nat => V.int (i : Int))))
theorem vals_range {acc : List Value} {n : Nat} (hl : acc.length = n) (h : ∀ (j : Nat) (v : Value), acc[j]? = some v → ∃ t, v = Value.int ((j : Nat) : Int) t) : Vals ((List.range n).map fun i : Nat => V.int (i : Int)) acc := by
  induction n generalizing acc with
  | zero => rw [List.length_eq_zero_iff.mp hl]; exact .nil
  | succ n ih =>
    have e : acc = acc.take n ++ [acc[n]'(by omega)] := by
      have := List.take_succ_eq_append_getElem (l := acc) (i := n) (by omega)
      rw [← this, List.take_of_length_le (by omega)]
    rw [List.range_succ, List.map_append, e]
    refine Vals.append (ih (by rw [List.length_take]; omega) fun j v hj => ?_) (.cons ?_ .nil)
    · have hjn : j < (acc.take n).length := (List.getElem?_eq_some_iff.mp hj).1
      rw [List.length_take] at hjn
      rw [List.getElem?_take_of_lt (by omega)] at hj
      exact h j v hj
    · obtain ⟨t, et⟩ := h n _ (List.getElem?_eq_getElem (by omega))
      exact ⟨t, et⟩
theorem call_listR (hc : X.calm = true) : CallR X (.type "list") rListR := by
  intro pins s σ H vs us Q I r h
  obtain ⟨a, n, rfl, ha, hn, q⟩ := h
  rw [Vals.ref1 r]
  obtain ⟨t, u, v, hr⟩ := (show ObjOk X.prog X.w H s.heap a (.rng 0 n) from I.hok a _ ha)
  refine call_list_range (I.ok.hd hc) hr (small_one (by omega) (by omega) (by omega) (by omega)) (n := n) (by rw [rangeSize_one]; split <;> omega) (by omega) fun h' tk acc c' hk hS hacc => ?_
  have hl : acc.toList.length = n := by rw [Array.length_toList]; exact hacc.1
  refine ⟨.ref s.heap.objs.size, _, I.laid (a := s.heap.objs.size) (o := .lst ((List.range n).map fun i : Nat => V.int (i : Int))) (t' := tk) hk (Nat.le_refl _) ⟨?_, acc.toList, c', vals_range hl fun j v hj => ?_, by simpa using hS⟩, rfl, q _ (I.hok.fresh (Nat.le_refl _))⟩
  · rw [List.length_map, List.length_range]; exact Nat.le_trans hn (by decide)
  · rw [Array.getElem?_toList] at hj
    obtain ⟨t, et⟩ := hacc.2 j v hj
    exact ⟨t, by rw [et]; congr 1; omega⟩
end
end L2
namespace Be
open PySem L2
section
variable {P : Program} {w : World} {K : PySem.W.Frag} {mg : Str → Option Value} {base : Heap}
/-! ### _law_is_least -/
end
end Be

namespace Be
open PySem L2
/-! ### words and moves -/
/-! ### each state twice -/
end Be

namespace Be
open PySem L2
/-! ### two machines together: mathematics -/
def jobs (f : Bool → Bool → Bool) (a b : Bool × List Bool) : Bool × List Bool := (f a.1 b.1, List.zipWith f a.2 b.2)
section
variable {M N F : Mach} {f : Bool → Bool → Bool}
/-- F goes along with M and N -/
def Along (F M N : Mach) (f : Bool → Bool → Bool) (τ : Nat → Nat) (p i j : Nat) : Prop := ∀ is, F.Stp is → F.obs (F.go p is) = jobs f (M.obs (M.go i (is.map τ))) (N.obs (N.go j (is.map τ)))
theorem Along.step {τ : Nat → Nat} {p i j t : Nat} (h : Along F M N f τ p i j) (ht : t < F.k * F.k) : Along F M N f τ (F.go1 p t) (M.go1 i (τ t)) (N.go1 j (τ t)) := fun is hs => h (t :: is) fun t' ht' => by
  rcases List.mem_cons.mp ht' with e | e
  · rw [e]; exact ht
  · exact hs t' e
theorem Along.obs {τ : Nat → Nat} {p i j : Nat} (h : Along F M N f τ p i j) : F.obs p = jobs f (M.obs i) (N.obs j) := h [] fun _ z => by cases z
/-! ### turned about -/
/-! ### words -/
end
end Be

namespace Be
open PySem L2
/-! ### levels: mathematics -/
def wordy (M : Mach) (s : Nat) : Bool := M.fin s || (M.mids.getD s []).any id
def goalsOf (M : Mach) (l : List Nat) : List Nat := l.flatMap M.row
def lastL (ls : List (List Nat)) : List Nat := ls.getLastD []
def nxtL (M : Mach) (ls : List (List Nat)) : List Nat := (addN ls.flatten (goalsOf M (lastL ls))).drop ls.flatten.length
inductive Lev (M : Mach) : List (List Nat) → Prop
  | start : Lev M [[0]]
  | step {ls : List (List Nat)} : Lev M ls → lastL ls ≠ [] → (∀ s ∈ lastL ls, wordy M s = false) → Lev M (ls ++ [nxtL M ls])
theorem flat_snoc (M : Mach) (ls : List (List Nat)) : (ls ++ [nxtL M ls]).flatten = addN ls.flatten (goalsOf M (lastL ls)) := by
  obtain ⟨r, e⟩ := addN_pre (goalsOf M (lastL ls)) ls.flatten
  rw [List.flatten_append]
  unfold nxtL
  rw [e]
  simp
theorem Lev.ne {M : Mach} {ls : List (List Nat)} (h : Lev M ls) : ls ≠ [] := by cases h <;> simp
theorem lastL_mem {ls : List (List Nat)} (h : ls ≠ []) : lastL ls ∈ ls := by
  unfold lastL
  rw [List.getLastD_eq_getLast?, List.getLast?_eq_some_getLast h]
  exact List.getLast_mem h
theorem Lev.facts {M : Mach} {Bd : Nat} (ok : M.OkB Bd) {ls : List (List Nat)} (h : Lev M ls) : ls.flatten.Nodup ∧ ∀ s ∈ ls.flatten, s < M.moves.length := by
  induction h with
  | start => exact ⟨by simp, fun s hs => by have : s = 0 := by simpa using hs
                                            rw [this]; exact ok.n1⟩
  | @step ls h1 h2 h3 ih =>
    rw [flat_snoc]
    refine ⟨addN_nodup ih.1, fun s hs => ?_⟩
    rcases mem_addN.mp hs with z | z
    · exact ih.2 s z
    · obtain ⟨q, hq, hx⟩ := List.mem_flatMap.mp (show s ∈ (lastL ls).flatMap M.row from z)
      exact (Mach.row_len ok (ih.2 q (List.mem_flatten.mpr ⟨_, lastL_mem h1.ne, hq⟩))).2.1 s hx
section
variable {P : Program} {w : World} {K : PySem.W.Frag} {mg : Str → Option Value} {base : Heap}
end
end Be

namespace Be
open PySem L2
/-! ### the first word: mathematics -/
/-- w is the first of the words of n letters from q on -/
structure FirstAt (M : Mach) (n q : Nat) (w : List Nat) : Prop where
  len : w.length = n
  over : ∀ c ∈ w, c ∈ M.L
  has : M.hasAt q w = true
  le : ∀ u : List Nat, u.length = n → (∀ c ∈ u, c ∈ M.L) → M.hasAt q u = true → ¬ u < w
/-- no word of n letters from q on -/
def NoWord (M : Mach) (n q : Nat) : Prop := ∀ u : List Nat, u.length = n → (∀ c ∈ u, c ∈ M.L) → M.hasAt q u = false
/-- levels: what is known of them -/
structure Lvs (M : Mach) (ls : List (List Nat)) : Prop where
  zero : ls[0]? = some [0]
  close : ∀ i l s g, ls[i]? = some l → i + 1 < ls.length → s ∈ l → g ∈ M.row s → ∃ j l', j ≤ i + 1 ∧ ls[j]? = some l' ∧ g ∈ l'
  plain : ∀ i l s, ls[i]? = some l → i + 1 < ls.length → s ∈ l → wordy M s = false
  from_ : ∀ i l g, ls[i + 1]? = some l → g ∈ l → ∃ l' s, ls[i]? = some l' ∧ s ∈ l' ∧ g ∈ M.row s
theorem hasAt_nil (M : Mach) (q : Nat) : M.hasAt q [] = M.fin q := rfl
theorem hasAt_one (M : Mach) (q c : Nat) : M.hasAt q [c] = M.mid q c := by
  unfold Mach.hasAt
  simp [Mach.run]
/-- what is known of the words at a level: first ones of n letters, of all states that have one -/
structure Wds (M : Mach) (n : Nat) (l : List Nat) (ws : Nat → Option (List Nat)) : Prop where
  first : ∀ g w, ws g = some w → g ∈ l ∧ FirstAt M n g w
  all : ∀ g, g ∈ l → ws g = none → NoWord M n g
/-- the words that go around those of the next level -/
def around (M : Mach) (ws : Nat → Option (List Nat)) (s : Nat) : List (List Nat) := (M.L.flatMap fun a => M.L.map fun b => (a, b)).filterMap fun p => (ws (M.stp s p)).map fun w => p.1 :: (w ++ [p.2])
/-- rising letters -/
theorem let_lt {x : Str} (h : LetOk x) : ∀ {i j a b : Nat}, i < j → x.cps.toList[i]? = some a → x.cps.toList[j]? = some b → a < b := fun {i j a b} hij hi hj => by
  have key : ∀ d {i a b : Nat}, x.cps.toList[i]? = some a → x.cps.toList[i + d + 1]? = some b → a < b := fun d => by
    induction d with
    | zero =>
      intro i a b hi hj
      refine h.up i a b ?_ ?_
      · rw [← Array.getElem?_toList]; exact hi
      · rw [← Array.getElem?_toList]; exact hj
    | succ d ih =>
      intro i a b hi hj
      have hl : i + d + 1 < x.cps.toList.length := by
        have := (List.getElem?_eq_some_iff.mp hj).1
        omega
      have h1 := ih hi (List.getElem?_eq_getElem hl)
      have h2 := h.up (i + d + 1) _ b (by rw [← Array.getElem?_toList]; exact List.getElem?_eq_getElem hl) (by rw [← Array.getElem?_toList]; exact hj)
      exact Nat.lt_trans h1 h2
  obtain ⟨d, rfl⟩ : ∃ d, j = i + d + 1 := ⟨j - i - 1, by omega⟩
  exact key d hi hj
theorem ix_at {M : Mach} {c : Nat} (h : c ∈ M.L) : M.L[M.ix c]? = some c := by
  have h1 := List.idxOf_lt_length_of_mem h
  show M.L[M.L.idxOf c]? = some c
  rw [List.getElem?_eq_getElem h1, List.getElem_idxOf]
theorem let_ix {M : Mach} {Bd : Nat} (ok : M.OkB Bd) {i c : Nat} (hi : M.L[i]? = some c) : M.ix c = i := by
  have hm := List.mem_of_getElem? hi
  have h1 := M.ix_lt hm
  have h2 : M.L[M.ix c]? = some c := ix_at hm
  rcases Nat.lt_trichotomy (M.ix c) i with h | h | h
  · exact absurd (let_lt ok.let_ h h2 hi) (Nat.lt_irrefl _)
  · exact h
  · exact absurd (let_lt ok.let_ h hi h2) (Nat.lt_irrefl _)
/-- the first word of all -/
structure FirstW (M : Mach) (w : List Nat) : Prop where
  at_ : FirstAt M w.length 0 w
  low : ∀ n, n < w.length → NoWord M n 0
end Be

namespace Be
open PySem L2
/-! ### can a beginning be gone on with to a word that parts two machines -/
/-- which letters (by place) may stand at place i -/
def chs (M : Mach) (bg : List Nat) (i : Nat) : List Nat := if i < bg.length then [M.ix (bg.getD i 0)] else List.range M.k
theorem mem_chs {M : Mach} {Bd : Nat} (ok : M.OkB Bd) {bg : List Nat} (hb : ∀ c ∈ bg, c ∈ M.L) {i f : Nat} (h : f ∈ chs M bg i) : ∃ c, c ∈ M.L ∧ M.ix c = f ∧ (i < bg.length → bg[i]? = some c) := by
  unfold chs at h
  by_cases hi : i < bg.length
  · rw [if_pos hi] at h
    have e : bg[i]? = some (bg.getD i 0) := by rw [List.getD_eq_getElem?_getD, List.getElem?_eq_getElem hi, Option.getD_some]
    exact ⟨_, hb _ (List.mem_of_getElem? e), (List.mem_singleton.mp h).symm, fun _ => e⟩
  · rw [if_neg hi] at h
    have hf : f < M.L.length := by have := List.mem_range.mp h; rw [Array.length_toList]; exact this
    have e : M.L[f]? = some (M.L[f]'hf) := List.getElem?_eq_getElem hf
    exact ⟨_, List.getElem_mem hf, let_ix ok e, fun z => absurd z hi⟩
theorem chs_lt {M : Mach} {Bd : Nat} (ok : M.OkB Bd) {bg : List Nat} (hb : ∀ c ∈ bg, c ∈ M.L) {i f : Nat} (h : f ∈ chs M bg i) : f < M.k := by
  obtain ⟨c, hc, rfl, _⟩ := mem_chs ok hb h
  exact M.ix_lt hc
theorem stp_go1 (M : Mach) (q a b : Nat) : M.stp q (a, b) = M.go1 q (M.ix a * M.k + M.ix b) := rfl
/-- w is the first word that parts M and N -/
structure FirstP (M N : Mach) (w : List Nat) : Prop where
  over : ∀ c ∈ w, c ∈ M.L
  low : ∀ u : List Nat, u.length < w.length → (∀ c ∈ u, c ∈ M.L) → M.hasAt 0 u = N.hasAt 0 u
  le : ∀ u : List Nat, u.length = w.length → (∀ c ∈ u, c ∈ M.L) → M.hasAt 0 u ≠ N.hasAt 0 u → ¬ u < w
end Be

/-! x is True, x is not False: of truths. -/
namespace L2
open PySem PySem.Spec PyProof.Rows
end L2

/-! x = {k: v for ..}; a method of a list within a comprehension -/
namespace L2
open PySem PySem.Spec PyProof.Rows
section
variable {X : Cx}
end
end L2

/-! min of a list of texts -/
namespace L2
open PySem PySem.Spec PyProof.Rows
section
variable {X : Cx}
end
end L2

namespace L2
open PySem PySem.Spec PyProof.Rows
/-! ### enumerate of a text -/
def Ites (x : Str) : It :=
  ⟨fun i _ => i < x.cps.size, fun i H v H' => ∃ T c, v = .ref T ∧ H T = none ∧ H' = upd H T (.tup [.int (i : Nat), .str ⟨#[c]⟩]) ∧ x.cps[i]? = some c, fun i _ => i = x.cps.size⟩
theorem turn_enumS {P : Program} {w : World} {K : PySem.W.Frag} {elts : List Expr} {kk : Nat} {tpos : Pos} (x : Str) (t : Tok) (e it : Addr) :
    Turn P w K (.Tuple elts kk tpos) (Ites x) [e, it] e (fun i h => (∃ old, IsEnum h e it ((i : Nat) : Int) old) ∧ h.IsStrIter it (strIterType x) x t i ∧ e ≠ it) where
  mem := by simp
  obj := fun i h st b hb => by
    obtain ⟨⟨old, he⟩, ⟨o, ho, hc, hd⟩, _⟩ := st
    have e' : b = e ∨ b = it := by simpa using hb
    rcases e' with z | z
    · rw [z]; exact ⟨_, he, fun v q => nomatch q⟩
    · rw [z]; exact ⟨o, ho, fun v q => by rw [hd] at q; cases q⟩
  keep := fun i h h' st k => let ⟨⟨old, he⟩, ⟨o, ho, r⟩, hne⟩ := st; ⟨⟨old, k e (by simp) _ he⟩, ⟨o, k it (by simp) o ho, r⟩, hne⟩
  item := by
    intro X hP hw hK hc i pins s σ H E I hf st hg
    subst hP hw hK
    obtain ⟨⟨old, he⟩, hit, hne⟩ := st
    have hel : e < s.heap.objs.size := Heap.lt_size he
    have hil : it < s.heap.objs.size := by obtain ⟨_, q, _⟩ := hit; exact Heap.lt_size q
    have hh : X.A.in1.handled = none := I.ok.hd hc
    refine wpAny_pyNext_enum_itemD (Draws.str hh it x t) he hit hg hne (by simp [hne]) fun x' h' tk hP ho hst hT hsz hk => ?_
    obtain ⟨c, u, hcx, ex⟩ := hP
    subst ex
    refine ⟨_, rfl, wpAny_letOwnedTupleGo_enum (s := { s with heap := h', toks := tk + 1 }) ho fun h'' he' sb => ?_⟩
    have hT2 : h''.get? s.heap.objs.size = some { cls := .type "tuple", data := .seq #[.int i tk, .str ⟨#[c]⟩ u] } := (sb.2 _ (Nat.ne_of_gt hel)).trans hT
    have new : ObjOk X.prog X.w (upd H s.heap.objs.size (.tup [.int (i : Nat), .str ⟨#[c]⟩])) h'' s.heap.objs.size (.tup [.int (i : Nat), .str ⟨#[c]⟩]) :=
      ⟨by show 2 ≤ sizeLine; decide, [.int i tk, .str ⟨#[c]⟩ u], .cons ⟨_, rfl⟩ (.cons ⟨_, rfl⟩ .nil), ⟨_, hT2, rfl, _, rfl⟩⟩
    have I1 : Inv X pins σ (upd H s.heap.objs.size (.tup [.int (i : Nat), .str ⟨#[c]⟩])) { s with heap := h'', toks := tk + 1 } :=
      I.turnedNew (ch := [e, it]) (fun b ob hb q => (sb.2 b (fun z => hb (by simp [z]))).trans (hk b ob (fun z => hb (by simp [z])) (fun z => hb (by simp [z])) q)) hf (Nat.le_refl _) new
    refine ⟨.ref s.heap.objs.size, _, I1, rfl, ⟨_, c, rfl, I.hok.fresh (Nat.le_refl _), rfl, hcx⟩, ⟨⟨.str ⟨#[c]⟩ u, ?_⟩, ?_, hne⟩, fun b hb => ?_⟩
    · have e1 : ((i + 1 : Nat) : Int) = (i : Int) + 1 := by omega
      rw [e1]; exact he'
    · obtain ⟨o, ho', r⟩ := hst
      exact ⟨o, (sb.2 it (Ne.symm hne)).trans ho', r⟩
    · have hb' : b < s.heap.objs.size := by
        have e' : b = e ∨ b = it := by simpa using hb
        rcases e' with z | z
        · rw [z]; exact hel
        · rw [z]; exact hil
      rw [upd_ne (Nat.ne_of_lt hb')]
      exact (hf b hb).1
  done := by
    intro X hP hw hK hc i pins s σ H E I hf st hg
    subst hP hw hK
    obtain ⟨⟨old, he⟩, hit, hne⟩ := st
    obtain ⟨f0, f1, f2, f3, f4, f5⟩ := hf it (by simp)
    have hh : X.A.in1.handled = none := I.ok.hd hc
    obtain rfl : i = x.cps.size := hg
    exact wpAny_pyNext_enum_endD (Draws.str hh it x t) he hit fun h' eb => ⟨rfl, I.turned (t' := s.toks) (fun b o hb q => eb b o hb q) f0 f1 f3 f4 f5⟩
  self := fun A i s Q E st h => let ⟨⟨_, he⟩, _⟩ := st; wpAny_pyIter_enum he h
def iEnumS (ta : TA) : TI := fun σ H R => ta σ H fun vs H1 => ∃ x, vs = [.str x] ∧ R (Ites x) H1
theorem pi_enumS {X : Cx} {e : Expr} {ta : TA} {p pos tpos : Pos} {elts : List Expr} {kk : Nat} (hg : Gl X "enumerate") (hm : X.mg "enumerate" = none) (ha : PA X [e] ta) (hs : starEach [e] X.env = [(false, eval e X.env)] := by rfl) :
    PI X (.Tuple elts kk tpos) (.Call (.Name "enumerate" p) [e] [] pos) (iEnumS ta) := by
  intro pins s σ H R I h
  refine Call_ (ld_blt I hg hm boot_enumerate (PyProof.Rows.callWith_type1 (thn (ha pos pins s σ H _ I h) fun us s1 ⟨vs, H1, I1, r1, q1⟩ => ?_) hs rfl))
  obtain ⟨x, ex, q⟩ := q1
  subst ex
  cases r1 with
  | cons r rr =>
    cases rr
    obtain ⟨t, rfl⟩ := r
    refine call_enumerate_str fun h' he hit hsz hk => wpAny_pyIter_enum he ?_
    have I2 : Inv X pins σ H1 { s1 with heap := h' } := I1.kept (t' := s1.toks) hk
    refine ⟨s1.heap.objs.size + 1, [s1.heap.objs.size + 1, s1.heap.objs.size], _, _, H1, rfl, I2, turn_enumS x t (s1.heap.objs.size + 1) s1.heap.objs.size, ⟨⟨.none, he⟩, hit, Nat.succ_ne_self _⟩, fun b hb => ?_, q⟩
    have e' : b = s1.heap.objs.size + 1 ∨ b = s1.heap.objs.size := by simpa using hb
    have hle : s1.heap.objs.size ≤ b := by
      rcases e' with z | z
      · rw [z]; exact Nat.le_add_right _ _
      · rw [z]; exact Nat.le_refl _
    exact I1.fpOk hle (I1.hok.fresh hle)
end L2

namespace Be
open PySem L2
theorem flat_repB {α : Type} (a : α) (n : Nat) : (List.replicate n [a]).flatten = List.replicate n a := by
  induction n with
  | zero => rfl
  | succ n ih => rw [List.replicate_succ, List.flatten_cons, ih, List.replicate_succ]; rfl
section
variable {P : Program} {w : World} {K : PySem.W.Frag} {mg : Str → Option Value} {base : Heap}
/-! ### _law_bare -/
end
end Be

namespace L2
open PySem
theorem pi_zipK {X : Cx} (K : PySem.W.Frag) {e e2 : Expr} {ta : TA} {p pos tpos : Pos} {elts : List Expr} {kk : Nat} (hg : Gl X "zip") (hm : X.mg "zip" = none) (ha : PA X [e, e2] ta)
    (hs : starEach [e, e2] X.env = (false, eval e X.env) :: starEach [e2] X.env := by rfl) (hpl : (backTo pos (starEach [e2] X.env)).any (·.1) = false := by rfl) (hK : X.K = K := by rfl) :
    PI X (.Tuple elts kk tpos) (.Call (.Name "zip" p) [e, e2] [] pos) (iZip K ta) := by subst hK; exact pi_zip hg hm ha hs hpl
theorem sl_listK {X : Cx} (K : PySem.W.Frag) (hK : X.K = K := by rfl) : SlR X (rSlL K) := by subst hK; exact sl_list
end L2

namespace Be
open PySem L2
theorem putF_ne {f g : Str} {v x : V} {r : List (Str × V)} (h : g ≠ f) : putF f v ((g, x) :: r) = (g, x) :: putF f v r := if_neg h
theorem putF_nil {f : Str} {v : V} : putF f v [] = [(f, v)] := rfl
theorem putF_eq {f : Str} {v x : V} {r : List (Str × V)} : putF f v ((f, x) :: r) = (f, v) :: r := if_pos rfl
def hb1 (M : Mach) (q : Nat) (w : List Nat) : Nat := if M.hasAt q w = true then 1 else 0
abbrev rrow (M : Mach) (w : List Nat) : List V := vI ((List.range M.moves.length).map fun q => hb1 M q w)
abbrev wrow (M : Mach) (b : List Nat) (j : Nat) : List V := vI ((List.range M.moves.length).map fun q => wy M b j q)
abbrev prow (M : Mach) (q c : Nat) : List V := vI (M.L.map fun d => M.stp q (c, d))
abbrev bFl (v : V) (n : Nat) (pl pi pw pr : Addr) : List (Str × V) := [("machine", v), ("long", .int ((n : Nat) : Int)), ("places", .ref pl), ("inside", .ref pi), ("ways", .ref pw), ("rest", .ref pr)]
/-- a beginning under way, made behind H0 -/
def Beg (H0 : Hp) (C : Addr) (v : V) (M : Mach) (n : Nat) (b : List Nat) (x pl pw : Addr) (H : Hp) : Prop := ∃ (dx pi pr : Addr) (rws wrs : List V),
  Same H0 H ∧ H0 x = none ∧ H0 pl = none ∧ H0 pw = none ∧ pl ≠ pw ∧ MAt H0 v M ∧ H x = some (.ins C dx (bFl v n pl pi pw pr)) ∧ H pl = some (.lst (vI (b.map M.ix))) ∧ H pw = some (.lst wrs) ∧
  msk H [x, pl, pw] pi = some (.lst rws) ∧ Rows (msk H [x, pl, pw]) rws ((List.range (n / 2 + 1)).map fun j => crow M (n % 2 + 2 * j)) ∧ Rows (msk H [x, pl, pw]) wrs ((List.range (min b.length (n / 2) + 1)).map fun j => wrow M b j) ∧
  msk H [x, pl, pw] pr = some (.lst (rrow M (b.drop (n - b.length))))
theorem Beg.same {H0 : Hp} {C : Addr} {v : V} {M : Mach} {n : Nat} {b : List Nat} {x pl pw : Addr} {H H' : Hp} (h : Beg H0 C v M n b x pl pw H) (s : Same H H') : Beg H0 C v M n b x pl pw H' := by
  obtain ⟨dx, pi, pr, rws, wrs, a1, a2, a3, a4, a5, a6, a7, a8, a9, b1, b2, b3, b4⟩ := h
  have m := msk_same (S := [x, pl, pw]) s
  exact ⟨dx, pi, pr, rws, wrs, a1.trans s, a2, a3, a4, a5, a6, s _ _ a7, s _ _ a8, s _ _ a9, m _ _ b1, b2.same m, b3.same m, m _ _ b4⟩
theorem Beg.mat {H0 : Hp} {C : Addr} {v : V} {M : Mach} {n : Nat} {b : List Nat} {x pl pw : Addr} {H : Hp} (h : Beg H0 C v M n b x pl pw H) : MAt H v M := by
  obtain ⟨dx, pi, pr, rws, wrs, a1, a2, a3, a4, a5, a6, _⟩ := h
  exact a6.same a1
theorem cut_row {M : Mach} (ok : M.Ok) {q a c : Nat} (hq : q < M.moves.length) (hc : M.L[a]? = some c) : cutV (vI (M.row q)) (some (((a : Nat) : Int) * ((M.k : Nat) : Int))) (some ((((a : Nat) : Int) + 1) * ((M.k : Nat) : Int))) = prow M q c := by
  have hl : M.L.length = M.k := Array.length_toList
  have ha : a < M.k := by have := (List.getElem?_eq_some_iff.mp hc).1; omega
  obtain ⟨h1, _, _⟩ := Mach.row_len ok hq
  have hix : M.ix c = a := by
    have := LetOk.nodup ok.let_
    have e := (List.getElem?_eq_some_iff.mp hc)
    show M.L.idxOf c = a
    rw [← e.2]; exact this.idxOf_getElem a e.1
  have e1 : ((a : Nat) : Int) * ((M.k : Nat) : Int) = ((a * M.k : Nat) : Int) := by rw [Int.natCast_mul]
  have e2 : (((a : Nat) : Int) + 1) * ((M.k : Nat) : Int) = (((a + 1) * M.k : Nat) : Int) := by rw [Int.natCast_mul]; rfl
  have le1 : a * M.k ≤ M.k * M.k := Nat.mul_le_mul_right _ (by omega)
  have le2 : (a + 1) * M.k ≤ M.k * M.k := Nat.mul_le_mul_right _ (by omega)
  have lv : (vI (M.row q)).length = M.k * M.k := by unfold vI; rw [List.length_map, h1]
  unfold cutV
  rw [e1, e2, HT.sIx_nat, HT.sIx_nat, lv, Nat.min_eq_left le1, Nat.min_eq_left le2, Nat.succ_mul, Nat.add_sub_cancel_left]
  unfold prow vI
  rw [← List.map_drop, ← List.map_take]
  congr 1
  apply List.ext_getElem?
  intro i
  rw [List.getElem?_map]
  by_cases hi : i < M.k
  · rw [List.getElem?_take_of_lt hi, List.getElem?_drop, List.getElem?_eq_getElem (show i < M.L.length by omega)]
    show _ = some (M.stp q (c, M.L[i]))
    have hxi : M.ix M.L[i] = i := (LetOk.nodup ok.let_).idxOf_getElem i (by omega)
    unfold Mach.stp
    rw [hix, hxi]
    have hlt : a * M.k + i < (M.row q).length := by
      rw [h1]
      have : a * M.k + M.k ≤ M.k * M.k := by rw [← Nat.succ_mul]; exact le2
      omega
    show (M.row q)[a * M.k + i]? = some ((M.row q).getD (a * M.k + i) 0)
    rw [List.getD_eq_getElem?_getD, List.getElem?_eq_getElem hlt]; rfl
  · rw [List.getElem?_eq_none (by rw [List.length_take]; omega), List.getElem?_eq_none (by omega)]; rfl
theorem hb_fin {M : Mach} {q : Nat} : hb1 M q [] = if M.fin q = true then 1 else 0 := rfl
theorem rows_msk {H : Hp} {S : List Addr} : ∀ {rs : List V} {xss : List (List V)}, Rows H rs xss → (∀ r ∈ rs, ∀ a ∈ S, r ≠ V.ref a) → Rows (msk H S) rs xss
  | _, _, .nil, _ => .nil
  | _, _, .cons ⟨p, e, q⟩ t, h => .cons ⟨p, e, by
      rw [msk_at (fun z => h _ (List.mem_cons_self ..) p z e)]; exact q⟩ (rows_msk t fun r hr => h r (List.mem_cons_of_mem _ hr))
theorem rows_ne {H : Hp} {l : Addr} {o : HO} (hl : H l = some o) : ∀ {rs : List V} {xss : List (List V)}, Rows H rs xss → (∀ xs ∈ xss, o ≠ .lst xs) → ∀ r ∈ rs, r ≠ V.ref l
  | _, _, .cons ⟨p, e, q⟩ t, h, r, hr => by
    rcases List.mem_cons.mp hr with rfl | hr
    · intro z
      rw [e] at z
      cases z
      rw [hl] at q
      exact h _ (List.mem_cons_self ..) (Option.some.inj q)
    · exact rows_ne hl t (fun xs hx => h xs (List.mem_cons_of_mem _ hx)) r hr
theorem wrow_zero {M : Mach} (h : 1 ≤ M.moves.length) (b : List Nat) : wrow M b 0 = V.int 1 :: List.replicate (M.moves.length - 1) (.int 0) := by
  obtain ⟨m, hm⟩ : ∃ m, M.moves.length = m + 1 := ⟨M.moves.length - 1, by omega⟩
  unfold wrow vI
  rw [hm, List.range_succ_eq_map, List.map_cons, List.map_cons, List.map_map, List.map_map, Nat.add_sub_cancel]
  congr 1
  rw [List.eq_replicate_iff]
  refine ⟨by rw [List.length_map, List.length_range], fun z hz => ?_⟩
  obtain ⟨q, _, rfl⟩ := List.mem_map.mp hz
  rfl

section
variable {P : Program} {w : World} {K : PySem.W.Frag} {mg : Str → Option Value} {base : Heap}
abbrev stB1 : Stmt := (stN (clsB (top 31)) 0)
abbrev stB2 : Stmt := (stN (clsB (top 31)) 1)
abbrev stB3 : Stmt := (stN (clsB (top 31)) 2)
/-! ### Beginning: __init__ -/
def spInitB (C : Addr) : Sp := fun vs H Q _ => ∃ (x dx : Addr) (v : V) (M : Mach) (n : Nat) (H0 : Hp), vs = [.ref x, v, .int ((n : Nat) : Int)] ∧ H x = some (.ins C dx []) ∧ Same H0 H ∧ H0 x = none ∧ MAt H0 v M ∧ M.Ok ∧ n ≤ 60 ∧ ∀ (pl pw : Addr) (H' : Hp), Beg H0 C v M n [] x pl pw H' → Q .non H'
abbrev NB1 : List Str := ["self", "machine", "long", "end"]
theorem scB1 : FnScope NB1 ["self", "machine", "long"] (defScope (stN (clsB (top 31)) 0)) := ⟨rfl, rfl, rfl, by decide +kernel, rfl, by decide +kernel, by decide +kernel⟩
set_option maxHeartbeats 2000000 in
theorem ok_initBeg {f fCi C : Addr} {fd fdCi : FuncData} (F : Fun K "__init__" "Beginning.__init__" stB1 f fd) (T : BI mg) (cl : Cls K C) (nM : NoAttr K C "machine") (nLo : NoAttr K C "long") (nPl : NoAttr K C "places") (nIn : NoAttr K C "inside") (nWa : NoAttr K C "ways") (nRe : NoAttr K C "rest")
    (DCi : Def K mg "counts_inside" (top 30) ["machine", "long"] fCi fdCi) (GCi : FnOk P w K mg base CX0 1 fCi fdCi ["machine", "long"] spCountsIn) : FnOk P w K mg base CX0 2 f fd ["self", "machine", "long"] (spInitB C) := by
  refine F.ok scB1 (fun vs H Q E h => ?_) (fun cdv A outer s H vs Q E hr h => ?_)
  · obtain ⟨x, dx, v, M, n, H0, rfl, _⟩ := h; rfl
  · obtain ⟨x, dx, v, M, n, H0, rfl, hx, s0, hx0, hM, ok, hn, kk⟩ := h
    refine ⟨_, (pss_cons (ps_fld (pv 0) (pv 1) rfl)
      (pss_cons (ps_fld (pv 0) (pv 2) rfl)
      (pss_cons (ps_fld (pv 0) (pe_lst pa_nil) rfl)
      (pss_cons (ps_fld (pv 0) (pe_call GCi (hr.mono (by decide)) (by rfl) DCi.m DCi.F.kp DCi.b .nil pass0 (pa_cons (pv 1) (pa_cons (pv 2) pa_nil))) rfl)
      (pss_cons (ps_fld (pv 0) (pe_lst (pa_cons (pe_op op_cat (pe_lst (pa_cons pe_int pa_nil)) (pe_op op_rep (pe_lst (pa_cons pe_int pa_nil)) (pe_op op_sub (pe_callB call_len_seq (by rfl) T.len PySem.boot_len (pa_cons (pe_ix ix_tup (pv 1) pe_int (fun _ _ => rfl)) pa_nil)) pe_int))) pa_nil)) rfl)
      (pss_one (ps_fld (pv 0) (pe_lc (own := [("end", 3)]) (g := gName 3) (by rfl) scB1.nd (pi_list (pe_ix ix_tup (pv 1) pe_int (fun _ _ => rfl)))
          (blkOk_by (own := [("end", 3)]) (N := NB1) (sc := (defScope (stN (clsB (top 31)) 0))) (by decide +kernel))
          (fun _ _ _ _ _ => (pg_name (i := 3) scB1.nd rfl (Or.inl rfl))) (fun _ _ _ _ _ => pts_nil) (fun _ _ _ _ _ => (pe_callTy call_int1 (by rfl) T.int (by decide +kernel) (pa_cons (pv 3) pa_nil)))) rfl))))))), ?_⟩
    obtain ⟨va, pm, pe, pq, rs, qs, rfl, h1, h2, h3, h4, h5, h6⟩ := id hM
    have hrl : rs.length = M.moves.length := by rw [h3.len, List.length_map]
    have hn1 := ok.n1
    have hn40 := ok.n40
    -- machine, long
    refine ⟨_, rfl, _, rfl, x, C, dx, _, rfl, hx, cl, nM, by show 0 < 1000; decide, ?_⟩
    have s1 : Same H0 (upd H x (.ins C dx (putF "machine" (.ref va) []))) := Same.put s0 hx0
    have x1 : (upd H x (.ins C dx (putF "machine" (.ref va) []))) x = some (.ins C dx [("machine", .ref va)]) := upd_same
    generalize upd H x (.ins C dx (putF "machine" (.ref va) [])) = H1 at s1 x1 ⊢
    refine ⟨_, rfl, _, rfl, x, C, dx, _, rfl, x1, cl, nLo, by show 1 < 1000; decide, ?_⟩
    rw [putF_ne (by decide), putF_nil]
    have s2 : Same H0 (upd H1 x (.ins C dx [("machine", .ref va), ("long", .int ((n : Nat) : Int))])) := Same.put s1 hx0
    have x2 : (upd H1 x (.ins C dx [("machine", .ref va), ("long", .int ((n : Nat) : Int))])) x = some (.ins C dx [("machine", .ref va), ("long", .int ((n : Nat) : Int))]) := upd_same
    generalize upd H1 x (.ins C dx [("machine", .ref va), ("long", .int ((n : Nat) : Int))]) = H2 at s2 x2 ⊢
    -- places
    refine ⟨by show 0 ≤ sizeLine; decide, fun pl hpl => ?_⟩
    have s3 : Same H2 (upd H2 pl (.lst [])) := Same.upd hpl
    have e3 : (upd H2 pl (.lst [])) pl = some (.lst []) := upd_same
    generalize upd H2 pl (.lst []) = H3 at s3 e3 ⊢
    have hpl0 : H0 pl = none := s2.free hpl
    refine ⟨_, rfl, x, C, dx, _, rfl, s3 _ _ x2, cl, nPl, by show 2 < 1000; decide, ?_⟩
    rw [putF_ne (by decide), putF_ne (by decide), putF_nil]
    have npx : pl ≠ x := fun z => by rw [z] at hpl; rw [hpl] at x2; cases x2
    have s4 : Same H0 (upd H3 x (.ins C dx [("machine", .ref va), ("long", .int ((n : Nat) : Int)), ("places", .ref pl)])) := Same.put (s2.trans s3) hx0
    have x4 : (upd H3 x (.ins C dx [("machine", .ref va), ("long", .int ((n : Nat) : Int)), ("places", .ref pl)])) x = some (.ins C dx [("machine", .ref va), ("long", .int ((n : Nat) : Int)), ("places", .ref pl)]) := upd_same
    have p4 : (upd H3 x (.ins C dx [("machine", .ref va), ("long", .int ((n : Nat) : Int)), ("places", .ref pl)])) pl = some (.lst []) := by rw [upd_ne npx]; exact e3
    generalize upd H3 x (.ins C dx [("machine", .ref va), ("long", .int ((n : Nat) : Int)), ("places", .ref pl)]) = H4 at s4 x4 p4 ⊢
    -- inside
    refine ⟨_, rfl, _, rfl, .ref va, M, n, rfl, hM.same s4, ok, hn, fun pi rws H5 s5 epi Rpi => ?_⟩
    have hx5 := s5 _ _ x4
    have hp5 := s5 _ _ p4
    have hrw : rws.length = n / 2 + 1 := by rw [Rpi.len, List.length_map, List.length_range]
    have npi : pi ≠ pl := fun z => by
      rw [z, hp5] at epi
      injection epi with epi
      injection epi with epi
      rw [← epi] at hrw
      simp at hrw
    have nix : pi ≠ x := fun z => by rw [z, hx5] at epi; cases epi
    have R5 : Rows (msk H5 [x, pl]) rws ((List.range (n / 2 + 1)).map fun j => crow M (n % 2 + 2 * j)) := rows_msk Rpi fun r hr a ha => by
      rcases List.mem_cons.mp ha with rfl | ha
      · exact rows_ne hx5 Rpi (fun xs _ z => by cases z) r hr
      · rw [List.mem_singleton.mp ha]
        refine rows_ne hp5 Rpi (fun xs hxs z => ?_) r hr
        obtain ⟨j, _, rfl⟩ := List.mem_map.mp hxs
        have : (crow M (n % 2 + 2 * j)).length = 0 := by injection z with z; rw [← z]; rfl
        rw [crow_len] at this
        omega
    have I5 : msk H5 [x, pl] pi = some (.lst rws) := by rw [msk_at (by simp [nix, npi])]; exact epi
    have s05 := s4.trans s5
    refine ⟨_, rfl, x, C, dx, _, rfl, hx5, cl, nIn, by show 3 < 1000; decide, ?_⟩
    rw [putF_ne (by decide), putF_ne (by decide), putF_ne (by decide), putF_nil]
    have s6 : Same H0 (upd H5 x (.ins C dx [("machine", .ref va), ("long", .int ((n : Nat) : Int)), ("places", .ref pl), ("inside", .ref pi)])) := Same.put s05 hx0
    have x6 : (upd H5 x (.ins C dx [("machine", .ref va), ("long", .int ((n : Nat) : Int)), ("places", .ref pl), ("inside", .ref pi)])) x = some (.ins C dx [("machine", .ref va), ("long", .int ((n : Nat) : Int)), ("places", .ref pl), ("inside", .ref pi)]) := upd_same
    have p6 : (upd H5 x (.ins C dx [("machine", .ref va), ("long", .int ((n : Nat) : Int)), ("places", .ref pl), ("inside", .ref pi)])) pl = some (.lst []) := by rw [upd_ne npx]; exact hp5
    have m6 : msk (upd H5 x (.ins C dx [("machine", .ref va), ("long", .int ((n : Nat) : Int)), ("places", .ref pl), ("inside", .ref pi)])) [x, pl] = msk H5 [x, pl] := msk_upd (by simp)
    generalize upd H5 x (.ins C dx [("machine", .ref va), ("long", .int ((n : Nat) : Int)), ("places", .ref pl), ("inside", .ref pi)]) = H6 at s6 x6 p6 m6 ⊢
    rw [← m6] at R5 I5
    -- ways
    refine ⟨by show 1 ≤ sizeLine; decide, fun q1 hq1 => ?_⟩
    have s7 : Same H6 (upd H6 q1 (.lst [.int 1])) := Same.upd hq1
    have e7 : (upd H6 q1 (.lst [.int 1])) q1 = some (.lst [.int 1]) := upd_same
    generalize upd H6 q1 (.lst [.int 1]) = H7 at s7 e7 ⊢
    refine ⟨by show 1 ≤ sizeLine; decide, fun q2 hq2 => ?_⟩
    have s8 : Same H7 (upd H7 q2 (.lst [.int 0])) := Same.upd hq2
    have e8 : (upd H7 q2 (.lst [.int 0])) q2 = some (.lst [.int 0]) := upd_same
    generalize upd H7 q2 (.lst [.int 0]) = H8 at s8 e8 ⊢
    have s08 := s6.trans (s7.trans s8)
    have enn : (((rs.length : Nat) : Int) - 1).toNat = M.moves.length - 1 := by rw [hrl]; omega
    refine ⟨_, rfl, va, _, _, _, rfl, rfl, SqT.of (s08 _ _ (h1)), rfl, pm, rs, rfl, .inl (SqL.of (s08 _ _ h2)), _, _, rfl, rfl, q2, _, _, rfl, rfl, e8, by omega, by omega, sz_le (by rw [enn]; show 1 * (M.moves.length - 1) ≤ _; omega), fun q3 hq3 => ?_⟩
    rw [enn, flat_repB]
    have s9 : Same H8 (upd H8 q3 (.lst (List.replicate (M.moves.length - 1) (.int 0)))) := Same.upd hq3
    have e9 : (upd H8 q3 (.lst (List.replicate (M.moves.length - 1) (.int 0)))) q3 = some (.lst (List.replicate (M.moves.length - 1) (.int 0))) := upd_same
    generalize upd H8 q3 (.lst (List.replicate (M.moves.length - 1) (.int 0))) = H9 at s9 e9 ⊢
    refine ⟨q1, q3, _, _, rfl, rfl, (s8.trans s9) _ _ e7, e9, sz_le (by rw [List.length_replicate]; show 1 + (M.moves.length - 1) ≤ _; omega), fun q4 hq4 => ?_⟩
    rw [show [V.int 1] ++ List.replicate (M.moves.length - 1) (.int 0) = wrow M [] 0 from (wrow_zero hn1 []).symm]
    have sA : Same H9 (upd H9 q4 (.lst (wrow M [] 0))) := Same.upd hq4
    have eA : (upd H9 q4 (.lst (wrow M [] 0))) q4 = some (.lst (wrow M [] 0)) := upd_same
    generalize upd H9 q4 (.lst (wrow M [] 0)) = HA at sA eA ⊢
    have s6A := s7.trans (s8.trans (s9.trans sA))
    have s69 := s7.trans (s8.trans s9)
    have n4x : q4 ≠ x := fun z => by rw [z, s69 _ _ x6] at hq4; cases hq4
    have n4p : q4 ≠ pl := fun z => by rw [z, s69 _ _ p6] at hq4; cases hq4
    refine ⟨by show 1 ≤ sizeLine; decide, fun pw hpw => ?_⟩
    have hpw0 : H0 pw = none := (s6.trans s6A).free hpw
    have R_A := R5.same (msk_same (S := [x, pl]) s6A)
    have I_A := (msk_same (S := [x, pl]) s6A) _ _ I5
    have W_A : msk HA [x, pl] q4 = some (.lst (wrow M [] 0)) := by rw [msk_at (by simp [n4x, n4p])]; exact eA
    have npw : pl ≠ pw := fun z => by rw [← z, s6A _ _ p6] at hpw; cases hpw
    have nxw : pw ≠ x := fun z => by rw [z, s6A _ _ x6] at hpw; cases hpw
    have mB : Same (msk HA [x, pl]) (msk (upd HA pw (.lst [.ref q4])) [x, pl, pw]) := msk_more (Same.upd hpw) hpw
    have sB : Same HA (upd HA pw (.lst [.ref q4])) := Same.upd hpw
    have eB : (upd HA pw (.lst [.ref q4])) pw = some (.lst [.ref q4]) := upd_same
    generalize upd HA pw (.lst [.ref q4]) = HB at sB eB mB ⊢
    have RB := R_A.same mB
    have IB := mB _ _ I_A
    have WB := mB _ _ W_A
    have s0B := s6.trans (s6A.trans sB)
    have xB := sB _ _ (s6A _ _ x6)
    have pB := sB _ _ (s6A _ _ p6)
    refine ⟨_, rfl, x, C, dx, _, rfl, xB, cl, nWa, by show 4 < 1000; decide, ?_⟩
    rw [putF_ne (by decide), putF_ne (by decide), putF_ne (by decide), putF_ne (by decide), putF_nil]
    have sC : Same H0 (upd HB x (.ins C dx [("machine", .ref va), ("long", .int ((n : Nat) : Int)), ("places", .ref pl), ("inside", .ref pi), ("ways", .ref pw)])) := Same.put s0B hx0
    have xC : (upd HB x (.ins C dx [("machine", .ref va), ("long", .int ((n : Nat) : Int)), ("places", .ref pl), ("inside", .ref pi), ("ways", .ref pw)])) x = some (.ins C dx [("machine", .ref va), ("long", .int ((n : Nat) : Int)), ("places", .ref pl), ("inside", .ref pi), ("ways", .ref pw)]) := upd_same
    have pC : (upd HB x (.ins C dx [("machine", .ref va), ("long", .int ((n : Nat) : Int)), ("places", .ref pl), ("inside", .ref pi), ("ways", .ref pw)])) pl = some (.lst []) := by rw [upd_ne npx]; exact pB
    have wC : (upd HB x (.ins C dx [("machine", .ref va), ("long", .int ((n : Nat) : Int)), ("places", .ref pl), ("inside", .ref pi), ("ways", .ref pw)])) pw = some (.lst [.ref q4]) := by rw [upd_ne nxw]; exact eB
    have mC : msk (upd HB x (.ins C dx [("machine", .ref va), ("long", .int ((n : Nat) : Int)), ("places", .ref pl), ("inside", .ref pi), ("ways", .ref pw)])) [x, pl, pw] = msk HB [x, pl, pw] := msk_upd (by simp)
    generalize upd HB x (.ins C dx [("machine", .ref va), ("long", .int ((n : Nat) : Int)), ("places", .ref pl), ("inside", .ref pi), ("ways", .ref pw)]) = HC at sC xC pC wC mC ⊢
    rw [← mC] at RB IB WB
    -- rest
    have rl : (rrow M []).length = M.moves.length := by unfold rrow vI; rw [List.length_map, List.length_map, List.length_range]
    refine ⟨_, rfl, va, _, _, _, rfl, rfl, SqT.of (sC _ _ h1), rfl, pe, rfl, ⟨_, SqL.of (sC _ _ h4)⟩, fun D1 hD1 => lc_list (K := K) (a := pe) (xs := vB M.ends) (fun i H' => Tak HC D1 (rrow M []) i H') (Tak.start hD1) (fun i H' _ h => SqL.of (h.1 _ _ (sC _ _ h4))) ?_ ?_⟩
    · rintro i v HD hv hT
      have hi : i < M.ends.length := by have := (List.getElem?_eq_some_iff.mp hv).1; simpa using this
      have hiM : i < M.moves.length := by rw [← ok.ends]; exact hi
      have ee : M.ends[i]? = some (M.fin i) := Mach.fin_at ok hiM
      rw [List.getElem?_map, ee] at hv
      cases Option.some.inj hv
      refine ⟨rfl, yesT ?_⟩
      refine ⟨_, rfl, .inr ⟨_, rfl, Tak.next hD1 hT (Same.refl _) ?_ (by rw [rl]; omega)⟩⟩
      unfold rrow vI
      rw [List.getElem?_map, List.getElem?_map, List.getElem?_range hiM]
      show some (V.int ((hb1 M i [] : Nat) : Int)) = _
      rw [hb_fin]
      cases M.fin i <;> rfl
    intro HD hT
    obtain ⟨sD, eD1⟩ := hT.all (by rw [rl]; unfold vB; rw [List.length_map, ok.ends]; exact Nat.le_refl _)
    have xD := sD _ _ xC
    refine ⟨_, rfl, x, C, dx, _, rfl, xD, cl, nRe, by show 5 < 1000; decide, ?_⟩
    rw [putF_ne (by decide), putF_ne (by decide), putF_ne (by decide), putF_ne (by decide), putF_ne (by decide), putF_nil]
    have mD := msk_same (S := [x, pl, pw]) sD
    have nDx : D1 ≠ x := fun z => by rw [z, xC] at hD1; cases hD1
    have nDp : D1 ≠ pl := fun z => by rw [z, pC] at hD1; cases hD1
    have nDw : D1 ≠ pw := fun z => by rw [z, wC] at hD1; cases hD1
    have mE : msk (upd HD x (.ins C dx (bFl (.ref va) n pl pi pw D1))) [x, pl, pw] = msk HD [x, pl, pw] := msk_upd (by simp)
    refine kk pl pw _ ⟨dx, pi, D1, rws, [.ref q4], Same.put (sC.trans sD) hx0, hx0, hpl0, hpw0, npw, hM, upd_same, by rw [upd_ne npx]; exact sD _ _ pC, by rw [upd_ne nxw]; exact sD _ _ wC, by rw [mE]; exact mD _ _ IB, by rw [mE]; exact RB.same mD, ?_, by rw [mE, msk_at (by simp [nDx, nDp, nDw]), List.drop_nil]; exact eD1⟩
    rw [mE]
    rw [show ((List.range (min ([] : List Nat).length (n / 2) + 1)).map fun j => wrow M [] j) = [wrow M [] 0] by
      rw [show min ([] : List Nat).length (n / 2) = 0 from Nat.zero_min _]; rfl]
    exact .cons ⟨q4, rfl, mD _ _ WB⟩ .nil
/-! ### in_left_half -/
def spLeftB (C : Addr) : Sp := fun vs H Q _ => ∃ (H0 : Hp) (x pl pw : Addr) (v : V) (M : Mach) (n : Nat) (b : List Nat), vs = [.ref x] ∧ Beg H0 C v M n b x pl pw H ∧ Q (.bl (decide (b.length < n / 2))) H
abbrev NB2 : List Str := ["self"]
theorem scB2 : FnScope NB2 ["self"] (defScope (stN (clsB (top 31)) 1)) := ⟨rfl, rfl, rfl, by decide +kernel, rfl, by decide +kernel, by decide +kernel⟩
theorem ok_leftB {f C : Addr} {fd : FuncData} (F : Fun K "in_left_half" "Beginning.in_left_half" stB2 f fd) (T : BI mg) (cl : Cls K C) (nLo : NoAttr K C "long") (nPl : NoAttr K C "places") : FnOk P w K mg base CX0 1 f fd ["self"] (spLeftB C) := by
  refine F.ok scB2 (fun vs H Q E h => ?_) (fun cdv A outer s H vs Q E hr h => ?_)
  · obtain ⟨H0, x, pl, pw, v, M, n, b, rfl, _⟩ := h; rfl
  · obtain ⟨H0, x, pl, pw, v, M, n, b, rfl, hb, kk⟩ := h
    refine ⟨_, (pss_one (ps_ret (pe_cmp (pc_lt (pe_callB call_len_seq (by rfl) T.len PySem.boot_len (pa_cons (pe_fld (pv 0) rfl) pa_nil)) (pe_op op_fdiv (pe_fld (pv 0) rfl) pe_int)) rfl))), ?_⟩
    obtain ⟨dx, pi, pr, rws, wrs, a1, a2, a3, a4, a5, a6, a7, a8, a9, b1, b2, b3, b4⟩ := id hb
    refine ⟨_, rfl, x, C, dx, _, _, rfl, a7, cl, nPl, rfl, pl, _, rfl, .inl (SqL.of a8), ?_⟩
    refine ⟨_, rfl, x, C, dx, _, _, rfl, a7, cl, nLo, rfl, _, _, rfl, rfl, (by show (0 : Int) < 2 ∧ (2 : Int) < 1073741824; decide), _, _, rfl, rfl, ?_⟩
    have e : decide (((vI (b.map M.ix)).length : Int) < ((n : Nat) : Int) / 2) = decide (b.length < n / 2) := by
      apply decide_eq_decide.mpr
      unfold vI
      rw [List.length_map, List.length_map]
      omega
    show Q (.bl (decide (((vI (b.map M.ix)).length : Int) < ((n : Nat) : Int) / 2))) H
    rw [e]
    exact kk
/-! ### row_parts -/
def spRowP (C : Addr) : Sp := fun vs H Q _ => ∃ (H0 : Hp) (x pl pw : Addr) (v : V) (M : Mach) (n : Nat) (b : List Nat) (a c : Nat), vs = [.ref x, .int ((a : Nat) : Int)] ∧ Beg H0 C v M n b x pl pw H ∧ M.Ok ∧ M.L[a]? = some c ∧
  ∀ (l : Addr) (rs : List V) (H' : Hp), Same H H' → H l = none → H' l = some (.lst rs) → Rows H' rs ((List.range M.moves.length).map fun q => prow M q c) → (∀ r ∈ rs, ∃ p, r = V.ref p ∧ H p = none) → Q (.ref l) H'
abbrev NB3 : List Str := ["self", "first", "many", "row"]
theorem scB3 : FnScope NB3 ["self", "first"] (defScope (stN (clsB (top 31)) 2)) := ⟨rfl, rfl, rfl, by decide +kernel, rfl, by decide +kernel, by decide +kernel⟩
set_option maxHeartbeats 2000000 in
theorem ok_rowP {f C : Addr} {fd : FuncData} (F : Fun K "row_parts" "Beginning.row_parts" stB3 f fd) (T : BI mg) (cl : Cls K C) (nM : NoAttr K C "machine") : FnOk P w K mg base CX0 1 f fd ["self", "first"] (spRowP C) := by
  refine F.ok scB3 (fun vs H Q E h => ?_) (fun cdv A outer s H vs Q E hr h => ?_)
  · obtain ⟨H0, x, pl, pw, v, M, n, b, a, c, rfl, _⟩ := h; rfl
  · obtain ⟨H0, x, pl, pw, v, M, n, b, a, c, rfl, hb, ok, hc, kk⟩ := h
    refine ⟨_, (pss_cons (ps_set (i := 2) scB3.nd rfl (Or.inr rfl) (pe_callB call_len_str (by rfl) T.len PySem.boot_len (pa_cons (pe_ix ix_tup (pe_fld (pv 0) rfl) pe_int (fun _ _ => rfl)) pa_nil)))
      (pss_one (ps_ret (pe_lc (own := [("row", 3)]) (g := gName 3) (by rfl) scB3.nd (pi_list (pe_ix ix_tup (pe_fld (pv 0) rfl) pe_int (fun _ _ => rfl)))
          (blkOk_by (own := [("row", 3)]) (N := NB3) (sc := (defScope (stN (clsB (top 31)) 2))) (by decide +kernel))
          (fun _ _ _ _ _ => (pg_name (i := 3) scB3.nd rfl (Or.inl rfl))) (fun _ _ _ _ _ => pts_nil) (fun _ _ _ _ _ => (pe_slice (sl_listK K) (pv 3) (po_some (pe_op op_mul (pv 1) (pv 2))) (po_some (pe_op op_mul (pe_op op_add (pv 1) pe_int) (pv 2))))))))), ?_⟩
    obtain ⟨dx, pi, pr, rws, wrs, a1, a2, a3, a4, a5, a6, a7, a8, a9, b1, b2, b3, b4⟩ := id hb
    obtain ⟨va, pm, pe, pq, rs, qs, rfl, h1, h2, h3, h4, h5, h6⟩ := id hb.mat
    have hrl : rs.length = M.moves.length := by rw [h3.len, List.length_map]
    have hn40 := ok.n40
    have hk3 : M.letters.cps.size ≤ 3 := ok.let_.k3
    have hzL : M.letters.length ≤ sizeLine := sz_le (by show M.letters.cps.size ≤ _; omega)
    have hl : M.L.length = M.k := Array.length_toList
    have ha : a < M.k := by have := (List.getElem?_eq_some_iff.mp hc).1; omega
    have hk3' : M.k ≤ 3 := hk3
    refine ⟨_, rfl, x, C, dx, _, _, rfl, a7, cl, nM, rfl, va, _, _, _, rfl, rfl, SqT.of h1, rfl, _, rfl, hzL, ?_⟩
    have xl : ((List.range M.moves.length).map fun q => prow M q c).length = M.moves.length := by rw [List.length_map, List.length_range]
    refine ⟨_, rfl, x, C, dx, _, _, rfl, a7, cl, nM, rfl, va, _, _, _, rfl, rfl, SqT.of h1, rfl, pm, rfl, ⟨_, SqL.of h2⟩, fun D1 hD1 => lc_list (K := K) (a := pm) (xs := rs) (fun i H' => Rak H H D1 ((List.range M.moves.length).map fun q => prow M q c) i H') (Rak.start hD1) (fun i H' _ h => SqL.of (h.1 _ _ h2)) ?_ ?_⟩
    · rintro i v H1 hv hT
      have hi : i < rs.length := (List.getElem?_eq_some_iff.mp hv).1
      obtain ⟨q, xs, rfl, hx, hq⟩ := h3.to hv
      have hiM : i < M.moves.length := by omega
      obtain ⟨rl1, _, rem⟩ := Mach.row_len ok hiM
      rw [List.getElem?_map, rem] at hx
      cases Option.some.inj hx
      refine ⟨rfl, yesT ?_⟩
      have hsm : -(2 ^ 64 : Int) < ((M.letters.cps.size : Nat) : Int) ∧ ((M.letters.cps.size : Nat) : Int) < 2 ^ 64 := by omega
      refine ⟨_, rfl, _, rfl, _, rfl, _, _, rfl, rfl, .inr hsm, _, rfl, _, rfl, _, _, rfl, rfl, _, rfl, _, _, rfl, rfl, .inr hsm, _, rfl, q, _, rfl, SqL.of (hT.1 _ _ hq), fun p hp => ?_⟩
      have ecut : cutV (vI (M.row i)) (some (((a : Nat) : Int) * ((M.letters.length : Nat) : Int))) (some ((((a : Nat) : Int) + 1) * ((M.letters.length : Nat) : Int))) = prow M i c := cut_row ok hiM hc
      refine Rak.next (Same.refl _) hD1 hT (xs := prow M i c) (by rw [List.getElem?_map, List.getElem?_range hiM]; rfl) (Same.upd hp) hp ?_ (by rw [xl]; omega)
      rw [upd_same, ecut]
    intro H1 hT
    obtain ⟨s1, ms, eD1, hR, hnew⟩ := hT.all (by rw [xl, hrl]; exact Nat.le_refl _)
    exact kk D1 ms H1 s1 hD1 eD1 hR hnew
end
end Be

namespace Be
open PySem L2
/-- how many words had go on with a letter, from a state behind the pairs -/
def sh (M : Mach) (n : Nat) (b : List Nat) (q c : Nat) : Nat := pcq M q (n - 2 * min b.length (n - 1 - b.length)) ((b ++ [c]).drop (min b.length (n - 1 - b.length)))
abbrev srow (M : Mach) (n : Nat) (b : List Nat) (c : Nat) : List V := vI ((List.range M.moves.length).map fun q => sh M n b q c)
theorem stp_lt {M : Mach} (ok : M.Ok) {q c d : Nat} (hq : q < M.moves.length) (hc : c ∈ M.L) (hd : d ∈ M.L) : M.stp q (c, d) < M.moves.length := (Mach.cell ok hq hc hd).choose_spec.2.2
theorem sh_left {M : Mach} (ok : M.Ok) {n : Nat} {b : List Nat} {q c : Nat} (h : b.length < n / 2) (hq : q < M.moves.length) (hc : c ∈ M.L) : sh M n b q c = (M.L.map fun d => M.cnt (n % 2 + 2 * (n / 2 - b.length - 1)) (M.stp q (c, d))).sum := by
  unfold sh
  rw [show min b.length (n - 1 - b.length) = b.length by omega, List.drop_left, show n - 2 * b.length = (n % 2 + 2 * (n / 2 - b.length - 1)) + 2 by omega, pcq_pair (Nat.zero_le _)]
  congr 1
  refine List.map_congr_left fun d hd => ?_
  unfold pcq
  rw [List.length_nil, Nat.sub_zero]
  exact cnt_texts ok _ _ (stp_lt ok hq hc hd)
theorem sh_mid {M : Mach} {n : Nat} {b : List Nat} {q c : Nat} (h : n - 1 - b.length = b.length) (hn : b.length < n) : sh M n b q c = if (M.mids.getD q []).getD (M.ix c) false = true then 1 else 0 := by
  unfold sh
  rw [h, Nat.min_self, List.drop_left, show n - 2 * b.length = 1 by omega, pcq_full (M := M) (q := q) (n := 1) (b := [c]) rfl]
  have e : M.hasAt q [c] = (M.mids.getD q []).getD (M.ix c) false := by
    simp [Mach.hasAt, Mach.run, Mach.mid]
  rw [e]
theorem sh_right {M : Mach} {n : Nat} {b : List Nat} {q c : Nat} (h : n - 1 - b.length < b.length) (hn : b.length < n) : sh M n b q c = hb1 M (M.stp q (b.getD (n - 1 - b.length) 0, c)) (b.drop (n - b.length)) := by
  unfold sh
  rw [Nat.min_eq_right (by omega)]
  have e : (b ++ [c]).drop (n - 1 - b.length) = b.getD (n - 1 - b.length) 0 :: (b.drop (n - b.length) ++ [c]) := by
    rw [List.drop_append_of_le_length (by omega), List.drop_eq_getElem_cons h, List.getD_eq_getElem?_getD, List.getElem?_eq_getElem h, show n - 1 - b.length + 1 = n - b.length by omega]
    rfl
  rw [pcq_full (by rw [e, List.length_cons, List.length_append, List.length_drop]; show b.length - (n - b.length) + 1 + 1 = _; omega), e, hasAt_pair]
  rfl

section
variable {P : Program} {w : World} {K : PySem.W.Frag} {mg : Str → Option Value} {base : Heap}
abbrev stB4 : Stmt := (stN (clsB (top 31)) 3)
/-! ### shares -/
def spSharesB (C : Addr) : Sp := fun vs H Q _ => ∃ (H0 : Hp) (x pl pw : Addr) (v : V) (M : Mach) (n : Nat) (b : List Nat), vs = [.ref x] ∧ Beg H0 C v M n b x pl pw H ∧ M.Ok ∧ b.length < n ∧ n ≤ 60 ∧ (∀ c ∈ b, c ∈ M.L) ∧
  ∀ (l : Addr) (rs : List V) (H' : Hp), Same H H' → H l = none → H' l = some (.lst rs) → Rows H' rs (M.L.map fun c => srow M n b c) → (∀ r ∈ rs, ∃ p, r = V.ref p ∧ H p = none) → Q (.ref l) H'
abbrev NB4 : List Str := ["self", "here", "places", "counts", "goal", "goals", "at", "counterpart", "row", "parts"]
theorem scB4 : FnScope NB4 ["self"] (defScope (stN (clsB (top 31)) 3)) := ⟨rfl, rfl, rfl, by decide +kernel, rfl, by decide +kernel, by decide +kernel⟩
set_option maxHeartbeats 8000000 in
theorem ok_sharesB {f fLh fRp C : Addr} {fd fdLh fdRp : FuncData} (F : Fun K "shares" "Beginning.shares" stB4 f fd) (T : BI mg) (Tsum : mg "sum" = none) (kB : Kl K mg "Beginning" C) (nM : NoAttr K C "machine") (nLo : NoAttr K C "long") (nPl : NoAttr K C "places") (nIn : NoAttr K C "inside") (nWa : NoAttr K C "ways") (nRe : NoAttr K C "rest")
    (mLh : Meth K C "in_left_half" fLh) (GLh : FnOk P w K mg base CX0 1 fLh fdLh ["self"] (spLeftB C)) (bLh : Binds K fdLh ["self"] [])
    (mRp : Meth K C "row_parts" fRp) (GRp : FnOk P w K mg base CX0 1 fRp fdRp ["self", "first"] (spRowP C)) (bRp : Binds K fdRp ["self", "first"] []) : FnOk P w K mg base CX0 2 f fd ["self"] (spSharesB C) := by
  refine F.ok scB4 (fun vs H Q E h => ?_) (fun cdv A outer s H vs Q E hr h => ?_)
  · obtain ⟨H0, x, pl, pw, v, M, n, b, rfl, _⟩ := h; rfl
  · obtain ⟨H0, x, pl, pw, v, M, n, b, rfl, hb, ok, hbn, hn, hov, kk⟩ := h
    refine ⟨_, (pss_cons (ps_set (i := 1) scB4.nd rfl (Or.inl rfl) (pe_callB call_len_seq (by rfl) T.len PySem.boot_len (pa_cons (pe_fld (pv 0) rfl) pa_nil)))
      (pss_cons (ps_set (i := 2) scB4.nd rfl (Or.inl rfl) (pe_callTy (call_listR rfl) (by rfl) T.list (by decide +kernel) (pa_cons (pe_callTy call_rng1 (by rfl) T.range (by decide +kernel) (pa_cons (pe_callB call_len_str (by rfl) T.len PySem.boot_len (pa_cons (pe_ix ix_tup (pe_fld (pv 0) rfl) pe_int (fun _ _ => rfl)) pa_nil)) pa_nil)) pa_nil)))
      (pss_cons (ps_if (pt_val (pe_meth0 (pv 0) kB.cl mLh GLh (hr.mono (by decide)) bLh .nil pass0)) (pss_cons (ps_set (i := 3) scB4.nd rfl (Or.inr rfl) (pe_ix ix_list (pe_fld (pv 0) rfl) (pe_op op_sub (pe_op op_sub (pe_op op_fdiv (pe_fld (pv 0) rfl) pe_int) (pv 1)) pe_int) (fun _ _ => rfl)))
      (pss_one (ps_ret (pe_lc (own := [("at", 6)]) (g := gName 6) (by rfl) scB4.nd (pi_list (pv 2))
          (blkOk_by (own := [("at", 6)]) (N := NB4) (sc := (defScope (stN (clsB (top 31)) 3))) (by decide +kernel))
          (fun _ _ _ _ _ => (pg_name (i := 6) scB4.nd rfl (Or.inl rfl))) (fun _ _ _ _ _ => pts_nil) (fun _ _ _ _ _ => (pe_lc (own := [("goals", 5)]) (g := gName 5) (by rfl) scB4.nd (pi_listK K (pe_meth (pv 0) kB.cl mRp GRp (hr.mono (by decide)) bRp .nil pass0 (pa_cons (pv 6) pa_nil)))
          (blkOk_by (own := [("goals", 5)]) (N := NB4) (sc := (relabel (scpE (stE (stN (stB (stN (defBody (stN (clsB (top 31)) 3)) 2)) 1)) (defScope (top 0))) (env0 (defScope (stN (clsB (top 31)) 3))))) (by decide +kernel))
          (fun _ _ _ _ _ => (pg_name (i := 5) scB4.nd rfl (Or.inl rfl))) (fun _ _ _ _ _ => pts_nil) (fun _ _ _ _ _ => (pe_callB (cr_sumK K rfl) (by rfl) Tsum (by decide +kernel) (pa_cons (pe_lc (own := [("goal", 4)]) (g := gName 4) (by rfl) scB4.nd (pi_listK K (pv 5))
          (blkOk_by (own := [("goal", 4)]) (N := NB4) (sc := (relabel (scpE (kidE (stE (stN (stB (stN (defBody (stN (clsB (top 31)) 3)) 2)) 1)) 0) (defScope (top 0))) (env0 (relabel (scpE (stE (stN (stB (stN (defBody (stN (clsB (top 31)) 3)) 2)) 1)) (defScope (top 0))) (env0 (defScope (stN (clsB (top 31)) 3))))))) (by decide +kernel))
          (fun _ _ _ _ _ => (pg_name (i := 4) scB4.nd rfl (Or.inl rfl))) (fun _ _ _ _ _ => pts_nil) (fun _ _ _ _ _ => (pe_ix (ix_listK K) (pv 3) (pv 4) (fun _ _ => rfl)))) pa_nil))))))))) pss_nil)
      (pss_cons (ps_set (i := 7) scB4.nd rfl (Or.inl rfl) (pe_op op_sub (pe_op op_sub (pe_fld (pv 0) rfl) pe_int) (pv 1)))
      (pss_cons (ps_if (pt_cmp (pc_eqI (pv 7) (pv 1))) (pss_one (ps_ret (pe_lc (own := [("at", 6)]) (g := gName 6) (by rfl) scB4.nd (pi_list (pv 2))
          (blkOk_by (own := [("at", 6)]) (N := NB4) (sc := (defScope (stN (clsB (top 31)) 3))) (by decide +kernel))
          (fun _ _ _ _ _ => (pg_name (i := 6) scB4.nd rfl (Or.inr rfl))) (fun _ _ _ _ _ => pts_nil) (fun _ _ _ _ _ => (pe_lc (own := [("row", 8)]) (g := gName 8) (by rfl) scB4.nd (pi_listK K (pe_ix (ix_tupK K) (pe_fldK K (pv 0) rfl) pe_int (fun _ _ => rfl)))
          (blkOk_by (own := [("row", 8)]) (N := NB4) (sc := (relabel (scpE (stE (stN (stB (stN (defBody (stN (clsB (top 31)) 3)) 4)) 0)) (defScope (top 0))) (env0 (defScope (stN (clsB (top 31)) 3))))) (by decide +kernel))
          (fun _ _ _ _ _ => (pg_name (i := 8) scB4.nd rfl (Or.inl rfl))) (fun _ _ _ _ _ => pts_nil) (fun _ _ _ _ _ => (pe_callTy call_int1 (by rfl) T.int (by decide +kernel) (pa_cons (pe_ix (ix_listK K) (pv 8) (pv 6) (fun _ _ => rfl)) pa_nil)))))))) pss_nil)
      (pss_cons (ps_set (i := 9) scB4.nd rfl (Or.inr rfl) (pe_meth (pv 0) kB.cl mRp GRp (hr.mono (by decide)) bRp .nil pass0 (pa_cons (pe_ix ix_list (pe_fld (pv 0) rfl) (pv 7) (fun _ _ => rfl)) pa_nil)))
      (pss_one (ps_ret (pe_lc (own := [("at", 6)]) (g := gName 6) (by rfl) scB4.nd (pi_list (pv 2))
          (blkOk_by (own := [("at", 6)]) (N := NB4) (sc := (defScope (stN (clsB (top 31)) 3))) (by decide +kernel))
          (fun _ _ _ _ _ => (pg_name (i := 6) scB4.nd rfl (Or.inr rfl))) (fun _ _ _ _ _ => pts_nil) (fun _ _ _ _ _ => (pe_lc (own := [("goals", 5)]) (g := gName 5) (by rfl) scB4.nd (pi_listK K (pv 9))
          (blkOk_by (own := [("goals", 5)]) (N := NB4) (sc := (relabel (scpE (stE (stN (defBody (stN (clsB (top 31)) 3)) 6)) (defScope (top 0))) (env0 (defScope (stN (clsB (top 31)) 3))))) (by decide +kernel))
          (fun _ _ _ _ _ => (pg_name (i := 5) scB4.nd rfl (Or.inl rfl))) (fun _ _ _ _ _ => pts_nil) (fun _ _ _ _ _ => (pe_ix (ix_listK K) (pe_fldK K (pv 0) rfl) (pe_ix (ix_listK K) (pv 5) (pv 6) (fun _ _ => rfl)) (fun _ _ => rfl)))))))))))))), ?_⟩
    obtain ⟨dx, pi, pr, rws, wrs, a1, a2, a3, a4, a5, a6, a7, a8, a9, b1, b2, b3, b4⟩ := id hb
    obtain ⟨va, pm, pe, pq, rs, qs, rfl, h1, h2, h3, h4, h5, h6⟩ := id hb.mat
    have hrl : rs.length = M.moves.length := by rw [h3.len, List.length_map]
    have hql : qs.length = M.moves.length := by rw [h6.len, List.length_map]; exact ok.mids
    have hn40 := ok.n40
    have hk3 : M.letters.cps.size ≤ 3 := ok.let_.k3
    have hzL : M.letters.length ≤ sizeLine := sz_le (by show M.letters.cps.size ≤ _; omega)
    have hLk : M.L.length = M.letters.cps.size := Array.length_toList
    have hpl : (vI (b.map M.ix)).length = b.length := by unfold vI; rw [List.length_map, List.length_map]
    have cdiv : (0 : Int) < 2 ∧ (2 : Int) < 1073741824 := by decide
    -- here
    refine ⟨_, rfl, x, C, dx, _, _, rfl, a7, kB.cl, nPl, rfl, pl, _, rfl, .inl (SqL.of a8), ?_⟩
    rw [hpl]
    -- places
    refine ⟨_, rfl, x, C, dx, _, _, rfl, a7, kB.cl, nM, rfl, va, _, _, _, rfl, rfl, SqT.of h1, rfl, M.letters, rfl, hzL, M.letters.length, rfl, fun q1 hq1 => ⟨q1, _, rfl, upd_same, by show M.letters.cps.size ≤ _; have : M.letters.cps.size ≤ 3 := hk3; omega, fun pp hpp => ?_⟩⟩
    have key : ∀ HA : Hp, Same H HA → HA pp = some (.lst (vI (List.range M.k))) → H pp = none → (∀ (l : Addr) (rs : List V) (H' : Hp), Same H H' → H l = none → H' l = some (.lst rs) → Rows H' rs (M.L.map fun c => srow M n b c) → (∀ r ∈ rs, ∃ p, r = V.ref p ∧ H p = none) → Q (.ref l) H') → True := fun _ _ _ _ _ => trivial
    have sA : Same H (upd (upd H q1 (.rng 0 ((M.letters.length : Nat) : Int))) pp (.lst ((List.range M.letters.length).map fun i => V.int ((i : Nat) : Int)))) := (Same.upd hq1).trans (Same.upd hpp)
    have eA : (upd (upd H q1 (.rng 0 ((M.letters.length : Nat) : Int))) pp (.lst ((List.range M.letters.length).map fun i => V.int ((i : Nat) : Int)))) pp = some (.lst (vI (List.range M.k))) := upd_same
    have nA := (Same.upd hq1 : Same H (upd H q1 (.rng 0 ((M.letters.length : Nat) : Int)))).free hpp
    generalize upd (upd H q1 (.rng 0 ((M.letters.length : Nat) : Int))) pp (.lst ((List.range M.letters.length).map fun i => V.int ((i : Nat) : Int))) = HA at sA eA ⊢
    clear key
    have hbA := hb.same sA
    have hkL : ∀ (i : Nat), i < M.k → ∃ c, M.L[i]? = some c ∧ c ∈ M.L ∧ M.ix c = i := fun i hi => by
      have hl : i < M.L.length := by rw [hLk]; exact hi
      exact ⟨M.L[i], List.getElem?_eq_getElem hl, List.getElem_mem hl, (LetOk.nodup ok.let_).idxOf_getElem i hl⟩
    have plen : (vI (List.range M.k)).length = M.k := by unfold vI; rw [List.length_map, List.length_range]
    have xl : (M.L.map fun c => srow M n b c).length = M.k := by rw [List.length_map]; exact hLk
    have sl : ∀ c, (srow M n b c).length = M.moves.length := fun c => by unfold srow vI; rw [List.length_map, List.length_map, List.length_range]
    have srow_at : ∀ (c q : Nat), q < M.moves.length → (srow M n b c)[q]? = some (.int ((sh M n b q c : Nat) : Int)) := fun c q hq => by
      unfold srow vI; rw [List.getElem?_map, List.getElem?_map, List.getElem?_range hq]; rfl
    -- in the left half
    refine ⟨_, rfl, x, dx, _, rfl, sA _ _ a7, rfl, ?_⟩
    unfold tNil
    refine ⟨H0, x, pl, pw, .ref va, M, n, b, rfl, hbA, ⟨_, rfl, ite2D (fun hL => ?_) (fun hL => ?_)⟩⟩
    · have hL' : b.length < n / 2 := hL
      have hj : n / 2 - b.length - 1 < n / 2 + 1 := by omega
      have eI : ((n : Nat) : Int) / 2 - ((b.length : Nat) : Int) - 1 = ((n / 2 - b.length - 1 : Nat) : Int) := by omega
      obtain ⟨ri, hri, hriR⟩ := b2.at (i := n / 2 - b.length - 1) (xs := crow M (n % 2 + 2 * (n / 2 - b.length - 1))) (by rw [List.getElem?_map, List.getElem?_range hj]; rfl)
      have hat : atI rws (((n : Nat) : Int) / 2 - ((b.length : Nat) : Int) - 1) = some (V.ref ri) := by rw [eI]; exact atI_nat hri
      have hriA := sA _ _ (msk_le _ _ hriR)
      refine ⟨_, rfl, x, C, dx, _, _, rfl, sA _ _ a7, kB.cl, nIn, rfl, _, rfl, x, C, dx, _, _, rfl, sA _ _ a7, kB.cl, nLo, rfl, _, _, rfl, rfl, cdiv, _, rfl, _, _, rfl, rfl, _, _, rfl, rfl, pi, rws, _, _, rfl, rfl, SqL.of (sA _ _ (msk_le _ _ b1)), hat, ?_⟩
      have sB := sA
      refine ⟨_, rfl, pp, rfl, ⟨_, SqL.of ((Same.refl HA) _ _ eA)⟩, fun D1 hD1 => lc_list (K := K) (a := pp) (xs := vI (List.range M.k)) (fun i H' => Rak HA HA D1 (M.L.map fun c => srow M n b c) i H') (Rak.start hD1) (fun i H' _ h => SqL.of (h.1 _ _ ((Same.refl HA) _ _ eA))) ?_ ?_⟩
      · rintro i w0 H1 hv hT
        have hi : i < M.k := by have := (List.getElem?_eq_some_iff.mp hv).1; rwa [plen] at this
        rw [List.getElem?_map, List.getElem?_range hi] at hv
        cases Option.some.inj hv
        obtain ⟨c, hc, hcL, hcx⟩ := hkL i hi
        have sA1 := sB.trans hT.1
        refine ⟨rfl, yesT ?_⟩
        refine ⟨_, rfl, x, dx, _, rfl, sA1 _ _ a7, rfl, _, rfl, H0, x, pl, pw, .ref va, M, n, b, i, c, rfl, hb.same sA1, ok, hc, fun lp prs H2 s2 hlp elp Rp hnew => ?_⟩
        have hprl : prs.length = M.moves.length := by rw [Rp.len, List.length_map, List.length_range]
        have sA2 := sA1.trans s2
        refine ⟨lp, rfl, ⟨_, SqL.of elp⟩, fun D2 hD2 => lc_list (K := K) (a := lp) (xs := prs) (fun j H' => Tak H2 D2 (srow M n b c) j H') (Tak.start hD2) (fun j H' _ h => SqL.of (h.1 _ _ elp)) ?_ ?_⟩
        · rintro j v2 H3 hv2 hT2
          have hj2 : j < prs.length := (List.getElem?_eq_some_iff.mp hv2).1
          have hjM : j < M.moves.length := by omega
          obtain ⟨q, xs, rfl, hx, hq⟩ := Rp.to hv2
          rw [List.getElem?_map, List.getElem?_range hjM] at hx
          cases Option.some.inj hx
          have hq3 := hT2.1 _ _ hq
          have pl3 : (prow M j c).length = M.k := by unfold prow vI; rw [List.length_map, List.length_map]; exact hLk
          refine ⟨rfl, yesT ?_⟩
          refine ⟨_, rfl, q, rfl, ⟨_, SqL.of hq3⟩, fun D3 hD3 => lc_list (K := K) (a := q) (xs := prow M j c) (fun t H' => Tak H3 D3 (M.L.map fun d => V.int ((M.cnt (n % 2 + 2 * (n / 2 - b.length - 1)) (M.stp j (c, d)) : Nat) : Int)) t H') (Tak.start hD3) (fun t H' _ h => SqL.of (h.1 _ _ hq3)) ?_ ?_⟩
          · rintro t v3 H4 hv3 hT4
            have ht : t < M.k := by have := (List.getElem?_eq_some_iff.mp hv3).1; rwa [pl3] at this
            obtain ⟨d, hd, hdL, hdx⟩ := hkL t ht
            unfold prow vI at hv3
            rw [List.getElem?_map, List.getElem?_map, hd] at hv3
            cases Option.some.inj hv3
            have hlt := stp_lt ok hjM hcL hdL
            refine ⟨rfl, yesT ?_⟩
            refine ⟨_, rfl, _, rfl, ri, _, _, _, rfl, rfl, SqL.of ((s2.trans (hT2.1.trans hT4.1)) _ _ (hT.1 _ _ hriA)), atI_nat (crow_at hlt), Tak.next hD3 hT4 (Same.refl _) ?_ (by rw [List.length_map, hLk]; omega)⟩
            rw [List.getElem?_map, hd]; rfl
          intro H4 hT4
          obtain ⟨s4, e4⟩ := hT4.all (by rw [List.length_map, pl3, hLk]; exact Nat.le_refl _)
          have e4' : H4 D3 = some (.lst ((M.L.map fun d => ((M.cnt (n % 2 + 2 * (n / 2 - b.length - 1)) (M.stp j (c, d)) : Nat) : Int)).map V.int)) := by rw [e4, List.map_map]; rfl
          refine ⟨D3, _, rfl, SqL.of e4', Tak.next hD2 hT2 s4 ?_ (by rw [sl]; omega)⟩
          rw [srow_at c j hjM, sum_cast, sh_left ok hL' hjM hcL]
        intro H3 hT3
        obtain ⟨s3, e3⟩ := hT3.all (by rw [sl]; omega)
        exact Rak.next (Same.refl _) hD1 hT (xs := srow M n b c) (by rw [List.getElem?_map, hc]; rfl) (s2.trans s3) (s2.free hD2) e3 (by rw [xl]; show M.letters.cps.size ≤ _; omega)
      intro H1 hT
      obtain ⟨s1, ms, eD1, hR, hnew⟩ := hT.all (by rw [xl, plen]; exact Nat.le_refl _)
      exact kk D1 ms H1 (sB.trans s1) (sB.free hD1) eD1 hR (fun r hr => by obtain ⟨p, e, q⟩ := hnew r hr; exact ⟨p, e, sB.free q⟩)
    · have hL' : ¬ b.length < n / 2 := hL
      have eC : ((n : Nat) : Int) - 1 - ((b.length : Nat) : Int) = ((n - 1 - b.length : Nat) : Int) := by omega
      refine ⟨_, rfl, x, C, dx, _, _, rfl, sA _ _ a7, kB.cl, nLo, rfl, _, _, rfl, rfl, _, rfl, _, _, rfl, rfl, ?_⟩
      refine ⟨_, rfl, _, rfl, _, _, rfl, rfl, _, rfl, ite2D (fun hM => ?_) (fun hM => ?_)⟩
      · have hM' : n - 1 - b.length = b.length := by have : ((n : Nat) : Int) - 1 - ((b.length : Nat) : Int) = ((b.length : Nat) : Int) := hM; omega
        have sB := sA
        refine ⟨_, rfl, pp, rfl, ⟨_, SqL.of ((Same.refl HA) _ _ eA)⟩, fun D1 hD1 => lc_list (K := K) (a := pp) (xs := vI (List.range M.k)) (fun i H' => Rak HA HA D1 (M.L.map fun c => srow M n b c) i H') (Rak.start hD1) (fun i H' _ h => SqL.of (h.1 _ _ ((Same.refl HA) _ _ eA))) ?_ ?_⟩
        · rintro i w0 H1 hv hT
          have hi : i < M.k := by have := (List.getElem?_eq_some_iff.mp hv).1; rwa [plen] at this
          rw [List.getElem?_map, List.getElem?_range hi] at hv
          cases Option.some.inj hv
          obtain ⟨c, hc, hcL, hcx⟩ := hkL i hi
          have sA1 := sB.trans hT.1
          refine ⟨rfl, yesT ?_⟩
          refine ⟨_, rfl, x, C, dx, _, _, rfl, sA1 _ _ a7, kB.cl, nM, rfl, va, _, _, _, rfl, rfl, SqT.of (sA1 _ _ h1), rfl, pq, rfl, ⟨_, SqL.of (sA1 _ _ h5)⟩, fun D2 hD2 => lc_list (K := K) (a := pq) (xs := qs) (fun j H' => Tak H1 D2 (srow M n b c) j H') (Tak.start hD2) (fun j H' _ h => SqL.of (h.1 _ _ (sA1 _ _ h5))) ?_ ?_⟩
          · rintro j v2 H3 hv2 hT2
            have hj2 : j < qs.length := (List.getElem?_eq_some_iff.mp hv2).1
            have hjM : j < M.moves.length := by omega
            obtain ⟨q, xs, rfl, hx, hq⟩ := h6.to hv2
            rw [List.getElem?_map, Mach.mids_at ok hjM] at hx
            cases Option.some.inj hx
            have hml : (M.mids.getD j []).length = M.k := ok.mrows _ (List.mem_of_getElem? (Mach.mids_at ok hjM))
            have hel : (vB (M.mids.getD j []))[i]? = some (.bl ((M.mids.getD j []).getD i false)) := by
              unfold vB
              rw [List.getElem?_map, List.getD_eq_getElem?_getD (l := M.mids.getD j []), List.getElem?_eq_getElem (by omega)]; rfl
            refine ⟨rfl, yesT ?_⟩
            refine ⟨_, rfl, _, rfl, q, _, _, _, rfl, rfl, SqL.of ((sA1.trans hT2.1) _ _ hq), atI_nat hel, .inr ⟨_, rfl, Tak.next hD2 hT2 (Same.refl _) ?_ (by rw [sl]; omega)⟩⟩
            rw [srow_at c j hjM, sh_mid hM' hbn, hcx]
            cases (M.mids.getD j []).getD i false <;> rfl
          intro H3 hT3
          obtain ⟨s3, e3⟩ := hT3.all (by rw [sl]; omega)
          exact Rak.next (Same.refl _) hD1 hT (xs := srow M n b c) (by rw [List.getElem?_map, hc]; rfl) s3 hD2 e3 (by rw [xl]; show M.letters.cps.size ≤ _; omega)
        intro H1 hT
        obtain ⟨s1, ms, eD1, hR, hnew⟩ := hT.all (by rw [xl, plen]; exact Nat.le_refl _)
        exact kk D1 ms H1 (sB.trans s1) (sB.free hD1) eD1 hR (fun r hr => by obtain ⟨p, e, q⟩ := hnew r hr; exact ⟨p, e, sB.free q⟩)
      · have hR' : n - 1 - b.length < b.length := by have : ¬ ((n : Nat) : Int) - 1 - ((b.length : Nat) : Int) = ((b.length : Nat) : Int) := hM; omega
        have hc0 : b[n - 1 - b.length]? = some (b.getD (n - 1 - b.length) 0) := by rw [List.getD_eq_getElem?_getD, List.getElem?_eq_getElem hR']; rfl
        generalize ec0 : b.getD (n - 1 - b.length) 0 = c0 at hc0
        have hc0L : c0 ∈ M.L := hov c0 (List.mem_of_getElem? hc0)
        have hc0x : M.L[M.ix c0]? = some c0 := by
          have hl := List.idxOf_lt_length_of_mem hc0L
          show M.L[M.L.idxOf c0]? = _
          rw [List.getElem?_eq_getElem hl, List.getElem_idxOf hl]
        have hpe : (vI (b.map M.ix))[n - 1 - b.length]? = some (.int ((M.ix c0 : Nat) : Int)) := by
          unfold vI; rw [List.getElem?_map, List.getElem?_map, hc0]; rfl
        have hpe' : atI (vI (b.map M.ix)) (((n : Nat) : Int) - 1 - ((b.length : Nat) : Int)) = some (.int ((M.ix c0 : Nat) : Int)) := by rw [eC]; exact atI_nat hpe
        refine ⟨_, rfl, x, dx, _, rfl, sA _ _ a7, rfl, _, rfl, x, C, dx, _, _, rfl, sA _ _ a7, kB.cl, nPl, rfl, _, rfl, pl, _, _, _, rfl, rfl, SqL.of (sA _ _ a8), hpe', H0, x, pl, pw, .ref va, M, n, b, M.ix c0, c0, rfl, hbA, ok, hc0x, fun lp prs HB s2 hlp elp Rp hnew => ?_⟩
        have hprl : prs.length = M.moves.length := by rw [Rp.len, List.length_map, List.length_range]
        have sB := sA.trans s2
        refine ⟨_, rfl, pp, rfl, ⟨_, SqL.of (s2 _ _ eA)⟩, fun D1 hD1 => lc_list (K := K) (a := pp) (xs := vI (List.range M.k)) (fun i H' => Rak HB HB D1 (M.L.map fun c => srow M n b c) i H') (Rak.start hD1) (fun i H' _ h => SqL.of (h.1 _ _ (s2 _ _ eA))) ?_ ?_⟩
        · rintro i w0 H1 hv hT
          have hi : i < M.k := by have := (List.getElem?_eq_some_iff.mp hv).1; rwa [plen] at this
          rw [List.getElem?_map, List.getElem?_range hi] at hv
          cases Option.some.inj hv
          obtain ⟨c, hc, hcL, hcx⟩ := hkL i hi
          have sA1 := sB.trans hT.1
          refine ⟨rfl, yesT ?_⟩
          refine ⟨_, rfl, lp, rfl, ⟨_, SqL.of (hT.1 _ _ elp)⟩, fun D2 hD2 => lc_list (K := K) (a := lp) (xs := prs) (fun j H' => Tak H1 D2 (srow M n b c) j H') (Tak.start hD2) (fun j H' _ h => SqL.of (h.1 _ _ (hT.1 _ _ elp))) ?_ ?_⟩
          · rintro j v2 H3 hv2 hT2
            have hj2 : j < prs.length := (List.getElem?_eq_some_iff.mp hv2).1
            have hjM : j < M.moves.length := by omega
            obtain ⟨q, xs, rfl, hx, hq⟩ := Rp.to hv2
            rw [List.getElem?_map, List.getElem?_range hjM] at hx
            cases Option.some.inj hx
            have s13 := hT.1.trans hT2.1
            have sA3 := sB.trans s13
            have hlt := stp_lt ok hjM hc0L hcL
            have hel : (prow M j c0)[i]? = some (.int ((M.stp j (c0, c) : Nat) : Int)) := by
              unfold prow vI
              rw [List.getElem?_map, List.getElem?_map, hc]; rfl
            have her : (rrow M (b.drop (n - b.length)))[M.stp j (c0, c)]? = some (.int ((hb1 M (M.stp j (c0, c)) (b.drop (n - b.length)) : Nat) : Int)) := by
              unfold rrow vI
              rw [List.getElem?_map, List.getElem?_map, List.getElem?_range hlt]; rfl
            refine ⟨rfl, yesT ?_⟩
            refine ⟨_, rfl, x, C, dx, _, _, rfl, sA3 _ _ a7, kB.cl, nRe, rfl, _, rfl, _, rfl, q, _, _, _, rfl, rfl, SqL.of (s13 _ _ hq), atI_nat hel, pr, _, _, _, rfl, rfl, SqL.of (sA3 _ _ (msk_le _ _ b4)), atI_nat her, Tak.next hD2 hT2 (Same.refl _) ?_ (by rw [sl]; omega)⟩
            rw [srow_at c j hjM, sh_right hR' hbn, ec0]
          intro H3 hT3
          obtain ⟨s3, e3⟩ := hT3.all (by rw [sl]; omega)
          exact Rak.next (Same.refl _) hD1 hT (xs := srow M n b c) (by rw [List.getElem?_map, hc]; rfl) s3 hD2 e3 (by rw [xl]; show M.letters.cps.size ≤ _; omega)
        intro H1 hT
        obtain ⟨s1, ms, eD1, hR, hnew⟩ := hT.all (by rw [xl, plen]; exact Nat.le_refl _)
        exact kk D1 ms H1 (sB.trans s1) (sB.free hD1) eD1 hR (fun r hr => by obtain ⟨p, e, q⟩ := hnew r hr; exact ⟨p, e, sB.free q⟩)
end
end Be

namespace L2
open PySem PySem.Spec PyProof.Rows
/-- o[i] of a list, by values, for o[i] op= e -/
def rGetL (K : PySem.W.Frag) : V → V → Hp → VK → Prop := fun o i H Q => ∃ (p : Addr) (xs : List V) (k : Nat) (v : V), o = .ref p ∧ i = .int ((k : Nat) : Int) ∧ SqL K H p xs ∧ xs[k]? = some v ∧ Q v H
theorem get_listN {X : Cx} : PGet X (rGetL X.K) := by
  intro pins s σ H o i ov iv Q I ro ri h
  obtain ⟨p, xs, k, v, rfl, rfl, hq, he, q⟩ := h
  cases ro
  obtain ⟨t, rfl⟩ := ri
  obtain ⟨its, r, pl, hz⟩ := I.list hq
  obtain ⟨w, ew, rw'⟩ := r.get he
  have hl := r.length
  have hn := line63
  have hk := (List.getElem?_eq_some_iff.mp he).1
  exact wpAny_getItem_list pl.isList (by omega) (by omega) (by simpa using ew) ⟨v, H, I, rw', q⟩
end L2

namespace Be
open PySem L2
theorem wy_app {M : Mach} {b r : List Nat} : ∀ {j q : Nat}, j ≤ b.length → wy M (b ++ r) j q = wy M b j q
  | 0, _, _ => rfl
  | j + 1, g, h => by
    show ((List.range M.moves.length).map fun q => wy M (b ++ r) j q * (M.L.countP fun d => decide (M.stp q ((b ++ r).getD j 0, d) = g))).sum = ((List.range M.moves.length).map fun q => wy M b j q * (M.L.countP fun d => decide (M.stp q (b.getD j 0, d) = g))).sum
    have e : (b ++ r).getD j 0 = b.getD j 0 := by rw [List.getD_eq_getElem?_getD, List.getD_eq_getElem?_getD, List.getElem?_append_left (by omega)]
    rw [e]
    congr 1
    refine List.map_congr_left fun q _ => ?_
    rw [wy_app (by omega)]
theorem sum_const (c : Nat) : ∀ l : List Nat, (l.map fun _ => c).sum = l.length * c
  | [] => by simp
  | x :: l => by rw [List.map_cons, List.sum_cons, sum_const c l, List.length_cons, Nat.succ_mul]; omega
theorem wy_total {M : Mach} (ok : M.Ok) {b : List Nat} (hb : ∀ c ∈ b, c ∈ M.L) : ∀ j, j ≤ b.length → ((List.range M.moves.length).map fun q => wy M b j q).sum = M.L.length ^ j
  | 0, _ => by
    have e : ((List.range M.moves.length).map fun q => wy M b 0 q) = (List.range M.moves.length).map fun g => (if 0 = g then 1 else 0) * 1 := by
      refine List.map_congr_left fun q _ => ?_
      show (if q = 0 then 1 else 0) = _
      by_cases h : q = 0
      · subst h; rfl
      · rw [if_neg h, if_neg (fun z => h z.symm)]
    rw [e, sum_range_if (fun _ => 1) ok.n1]; rfl
  | j + 1, h => by
    have ih := wy_total ok hb j (by omega)
    have hj : j < b.length := by omega
    have hbj : b.getD j 0 ∈ M.L := by
      rw [List.getD_eq_getElem?_getD, List.getElem?_eq_getElem hj]; exact hb _ (List.getElem_mem hj)
    show ((List.range M.moves.length).map fun g => ((List.range M.moves.length).map fun q => wy M b j q * (M.L.countP fun d => decide (M.stp q (b.getD j 0, d) = g))).sum).sum = _
    rw [← sum_comm]
    have e : ((List.range M.moves.length).map fun q => ((List.range M.moves.length).map fun g => wy M b j q * (M.L.countP fun d => decide (M.stp q (b.getD j 0, d) = g))).sum) = (List.range M.moves.length).map fun q => wy M b j q * M.L.length := by
      refine List.map_congr_left fun q hq => ?_
      have hq' := List.mem_range.mp hq
      have h1 := sum_by (F := fun _ => 1) (n := M.moves.length) (f := fun d => M.stp q (b.getD j 0, d)) (l := M.L) (fun d hd => stp_lt ok hq' hbj hd)
      rw [sum_const, Nat.mul_one] at h1
      have h2 : ((List.range M.moves.length).map fun g => (M.L.countP fun d => decide (M.stp q (b.getD j 0, d) = g)) * 1) = (List.range M.moves.length).map fun g => M.L.countP fun d => decide (M.stp q (b.getD j 0, d) = g) := by
        refine List.map_congr_left fun g _ => ?_
        rw [Nat.mul_one]
      rw [h2] at h1
      rw [h1, ← sum_mul, List.map_map]; rfl
    rw [e, sum_mulR, ih, Nat.pow_succ]
theorem le_sum {f : Nat → Nat} : ∀ {l : List Nat} {x : Nat}, x ∈ l → f x ≤ (l.map f).sum
  | a :: l, x, h => by
    rw [List.map_cons, List.sum_cons]
    rcases List.mem_cons.mp h with rfl | h
    · omega
    · have := le_sum (f := f) h; omega
theorem wy_small {M : Mach} (ok : M.Ok) {b : List Nat} (hb : ∀ c ∈ b, c ∈ M.L) {j q : Nat} (hj : j ≤ b.length) (h30 : j ≤ 30) (hq : q < M.moves.length) : wy M b j q < 2 ^ 64 := by
  have h1 := le_sum (f := fun q => wy M b j q) (List.mem_range.mpr hq)
  rw [wy_total ok hb j hj] at h1
  have hk : M.L.length ≤ 3 := by have := ok.let_.k3; rw [Array.length_toList]; exact this
  have h2 : M.L.length ^ j ≤ 3 ^ 30 := Nat.le_trans (Nat.pow_le_pow_left hk j) (Nat.pow_le_pow_right (by decide) h30)
  have h3 : (3 : Nat) ^ 30 < 2 ^ 64 := by decide
  exact Nat.lt_of_le_of_lt (Nat.le_trans h1 h2) h3
theorem map_range_set {n g : Nat} {G : Nat → Nat} {x : Nat} (hg : g < n) : (vI ((List.range n).map G)).set g (.int ((x : Nat) : Int)) = vI ((List.range n).map fun q => if q = g then x else G q) := by
  unfold vI
  rw [List.map_map, List.map_map]
  apply List.ext_getElem?
  intro i
  rw [List.getElem?_set]
  by_cases h : g = i
  · subst h
    rw [if_pos rfl, if_pos (by rw [List.length_map, List.length_range]; exact hg), List.getElem?_map, List.getElem?_range hg]
    simp
  · rw [if_neg h, List.getElem?_map, List.getElem?_map]
    by_cases hi : i < n
    · rw [List.getElem?_range hi]
      have h' : ¬ i = g := fun z => h z.symm
      simp [h']
    · rw [List.getElem?_eq_none (by rw [List.length_range]; omega)]; rfl
theorem ixN_nat {n j : Nat} (h : j < n) : ixN n ((j : Nat) : Int) = some j := by
  unfold ixN
  simp
  omega
theorem sh_rest {M : Mach} {n : Nat} {b : List Nat} {q c : Nat} (h : ¬ b.length < n / 2) (hn : b.length < n) : sh M n b q c = hb1 M q ((b ++ [c]).drop (n - (b ++ [c]).length)) := by
  have hlb : (b ++ [c]).length = b.length + 1 := List.length_append
  unfold sh hb1
  rw [hlb, show min b.length (n - 1 - b.length) = n - 1 - b.length by omega, show n - (b.length + 1) = n - 1 - b.length by omega]
  exact pcq_full (by rw [List.length_drop, hlb]; omega)

section
variable {P : Program} {w : World} {K : PySem.W.Frag} {mg : Str → Option Value} {base : Heap}
abbrev stB5 : Stmt := (stN (clsB (top 31)) 4)
abbrev stB6 : Stmt := (stN (clsB (top 31)) 5)
abbrev stB7 : Stmt := (stN (clsB (top 31)) 6)
/-! ### counts -/
def spCountsB (C : Addr) : Sp := fun vs H Q _ => ∃ (H0 : Hp) (x pl pw : Addr) (v : V) (M : Mach) (n : Nat) (b : List Nat), vs = [.ref x] ∧ Beg H0 C v M n b x pl pw H ∧ M.Ok ∧ b.length < n ∧ n ≤ 60 ∧ (∀ c ∈ b, c ∈ M.L) ∧
  ∀ (l : Addr) (H' : Hp), Same H H' → H l = none → H' l = some (.lst (vI (M.L.map fun c => pcq M 0 n (b ++ [c])))) → Q (.ref l) H'
abbrev NB5 : List Str := ["self", "here", "ways", "many", "share", "row"]
theorem scB5 : FnScope NB5 ["self"] (defScope (stN (clsB (top 31)) 4)) := ⟨rfl, rfl, rfl, by decide +kernel, rfl, by decide +kernel, by decide +kernel⟩
set_option maxHeartbeats 4000000 in
theorem ok_countsB {f fSh C : Addr} {fd fdSh : FuncData} (F : Fun K "counts" "Beginning.counts" stB5 f fd) (T : BI mg) (Tsum : mg "sum" = none) (Tmin : mg "min" = none) (kB : Kl K mg "Beginning" C) (nM : NoAttr K C "machine") (nLo : NoAttr K C "long") (nPl : NoAttr K C "places") (nIn : NoAttr K C "inside") (nWa : NoAttr K C "ways") (nRe : NoAttr K C "rest")
    (mSh : Meth K C "shares" fSh) (GSh : FnOk P w K mg base CX0 2 fSh fdSh ["self"] (spSharesB C)) (bSh : Binds K fdSh ["self"] []) : FnOk P w K mg base CX0 3 f fd ["self"] (spCountsB C) := by
  refine F.ok scB5 (fun vs H Q E h => ?_) (fun cdv A outer s H vs Q E hr h => ?_)
  · obtain ⟨H0, x, pl, pw, v, M, n, b, rfl, _⟩ := h; rfl
  · obtain ⟨H0, x, pl, pw, v, M, n, b, rfl, hb, ok, hbn, hn, hov, kk⟩ := h
    refine ⟨_, (pss_cons (ps_set (i := 1) scB5.nd rfl (Or.inl rfl) (pe_callB call_len_seq (by rfl) T.len PySem.boot_len (pa_cons (pe_fld (pv 0) rfl) pa_nil)))
      (pss_cons (ps_set (i := 2) scB5.nd rfl (Or.inr rfl) (pe_ix ix_list (pe_fld (pv 0) rfl) (pe_callB (call_min2 rfl) (by rfl) Tmin (by decide +kernel) (pa_cons (pv 1) (pa_cons (pe_op op_sub (pe_op op_sub (pe_fld (pv 0) rfl) pe_int) (pv 1)) pa_nil))) (fun _ _ => rfl)))
      (pss_one (ps_ret (pe_lc (own := [("row", 5)]) (g := gName 5) (by rfl) scB5.nd (pi_list (pe_meth0 (pv 0) kB.cl mSh GSh (hr.mono (by decide)) bSh .nil pass0))
          (blkOk_by (own := [("row", 5)]) (N := NB5) (sc := (defScope (stN (clsB (top 31)) 4))) (by decide +kernel))
          (fun _ _ _ _ _ => (pg_name (i := 5) scB5.nd rfl (Or.inl rfl))) (fun _ _ _ _ _ => pts_nil) (fun _ _ _ _ _ => (pe_callB (cr_sumK K rfl) (by rfl) Tsum (by decide +kernel) (pa_cons (pe_lc (own := [("many", 3), ("share", 4)]) (g := gTup K 2 (gCons (gName 3) (gCons (gName 4) gNil))) (by rfl) scB5.nd (pi_zipK K (by rfl) T.zip (pa_cons (pv 2) (pa_cons (pv 5) pa_nil)))
          (blkOk_by (own := [("many", 3), ("share", 4)]) (N := NB5) (sc := (relabel (scpE (stE (stN (defBody (stN (clsB (top 31)) 4)) 2)) (defScope (top 0))) (env0 (defScope (stN (clsB (top 31)) 4))))) (by decide +kernel))
          (fun _ _ _ _ _ => (pg_tup (by rfl) (pgs_cons (pg_name (i := 3) scB5.nd rfl (Or.inl rfl)) (pgs_cons (pg_name (i := 4) scB5.nd rfl (Or.inl rfl)) pgs_nil)))) (fun _ _ _ _ _ => pts_nil) (fun _ _ _ _ _ => (pe_op op_mul (pv 3) (pv 4)))) pa_nil)))))))), ?_⟩
    obtain ⟨dx, pi, pr, rws, wrs, a1, a2, a3, a4, a5, a6, a7, a8, a9, b1, b2, b3, b4⟩ := id hb
    have hLk : M.L.length = M.letters.cps.size := Array.length_toList
    have hk3 : M.letters.cps.size ≤ 3 := ok.let_.k3
    have hn40 := ok.n40
    have hpl : (vI (b.map M.ix)).length = b.length := by unfold vI; rw [List.length_map, List.length_map]
    generalize hj : min b.length (n - 1 - b.length) = j
    have hj1 : j ≤ b.length := by omega
    have hj2 : j ≤ n - 1 - b.length := by omega
    have hj3 : j < min b.length (n / 2) + 1 := by omega
    obtain ⟨rj, hrj, hrjR⟩ := b3.at (i := j) (xs := wrow M b j) (by rw [List.getElem?_map, List.getElem?_range hj3]; rfl)
    have hrjH := msk_le _ _ hrjR
    -- here, ways
    refine ⟨_, rfl, x, C, dx, _, _, rfl, a7, kB.cl, nPl, rfl, pl, _, rfl, .inl (SqL.of a8), ?_⟩
    rw [hpl]
    have hat : atI wrs (if ((n : Nat) : Int) - 1 - ((b.length : Nat) : Int) < ((b.length : Nat) : Int) then ((n : Nat) : Int) - 1 - ((b.length : Nat) : Int) else ((b.length : Nat) : Int)) = some (V.ref rj) := by
      have e : (if ((n : Nat) : Int) - 1 - ((b.length : Nat) : Int) < ((b.length : Nat) : Int) then ((n : Nat) : Int) - 1 - ((b.length : Nat) : Int) else ((b.length : Nat) : Int)) = ((j : Nat) : Int) := by split <;> omega
      rw [e]; exact atI_nat hrj
    refine ⟨_, rfl, x, C, dx, _, _, rfl, a7, kB.cl, nWa, rfl, _, rfl, _, rfl, x, C, dx, _, _, rfl, a7, kB.cl, nLo, rfl, _, _, rfl, rfl, _, rfl, _, _, rfl, rfl, _, _, rfl, pw, wrs, _, _, rfl, rfl, SqL.of a9, hat, ?_⟩
    -- shares
    refine ⟨_, rfl, x, dx, _, rfl, a7, rfl, ?_⟩
    unfold tNil
    refine ⟨H0, x, pl, pw, v, M, n, b, rfl, hb, ok, hbn, hn, hov, fun ls srs H1 s1 hls els Rs hnew => ?_⟩
    have hsl : srs.length = M.L.length := by rw [Rs.len, List.length_map]
    have tl : (vI (M.L.map fun c => pcq M 0 n (b ++ [c]))).length = M.L.length := by unfold vI; rw [List.length_map, List.length_map]
    refine ⟨ls, rfl, ⟨_, SqL.of els⟩, fun D1 hD1 => lc_list (K := K) (a := ls) (xs := srs) (fun i H' => Tak H1 D1 (vI (M.L.map fun c => pcq M 0 n (b ++ [c]))) i H') (Tak.start hD1) (fun i H' _ h => SqL.of (h.1 _ _ els)) ?_ ?_⟩
    · rintro i v0 H2 hv hT
      have hi : i < srs.length := (List.getElem?_eq_some_iff.mp hv).1
      have hiL : i < M.L.length := by omega
      obtain ⟨q, xs, rfl, hx, hq⟩ := Rs.to hv
      have hc : M.L[i]? = some (M.L[i]'hiL) := List.getElem?_eq_getElem hiL
      have hcL : M.L[i]'hiL ∈ M.L := List.getElem_mem hiL
      generalize M.L[i]'hiL = c at hc hcL
      rw [List.getElem?_map, hc] at hx
      cases Option.some.inj hx
      have hq2 := hT.1 _ _ hq
      have hr2 := (s1.trans hT.1) _ _ hrjH
      have hov' : ∀ d ∈ b ++ [c], d ∈ M.L := fun d hd => by
        rcases List.mem_append.mp hd with z | z
        · exact hov d z
        · rw [List.mem_singleton.mp z]; exact hcL
      have hlb : (b ++ [c]).length = b.length + 1 := List.length_append
      refine ⟨rfl, yesT ?_⟩
      refine ⟨_, rfl, _, rfl, rj, q, _, _, rfl, SqL.of hr2, SqL.of hq2, fun D2 hD2 =>
        lc_it (J := Itz K rj q) (n := M.moves.length) (fun m Hz => Same H2 Hz ∧ Hz D2 = some (.lst (vI ((List.range m).map fun t => wy M b j t * sh M n b t c))))
        ⟨Same.upd hD2, upd_same⟩ (fun m Hz hm p => ⟨wrow M b j, srow M n b c, V.int ((wy M b j m : Nat) : Int), V.int ((sh M n b m c : Nat) : Int), SqL.of (p.1 _ _ hr2), SqL.of (p.1 _ _ hq2), by unfold wrow vI; rw [List.getElem?_map, List.getElem?_map, List.getElem?_range hm]; rfl, by unfold srow vI; rw [List.getElem?_map, List.getElem?_map, List.getElem?_range hm]; rfl⟩)
        (fun Hz p => ⟨wrow M b j, srow M n b c, SqL.of (p.1 _ _ hr2), SqL.of (p.1 _ _ hq2), .inl (by unfold wrow vI; rw [List.length_map, List.length_map, List.length_range]; exact Nat.le_refl _)⟩) ?_ ?_⟩
      · rintro m v2 Hz Hz' hm ⟨sz, fz⟩ ⟨T2, x', y', rfl, hT2, rfl, hx', hy'⟩
        have hx' := hx' _ (SqL.of (sz _ _ hr2))
        have hy' := hy' _ (SqL.of (sz _ _ hq2))
        have ex : (wrow M b j)[m]? = some (V.int ((wy M b j m : Nat) : Int)) := by unfold wrow vI; rw [List.getElem?_map, List.getElem?_map, List.getElem?_range hm]; rfl
        have ey : (srow M n b c)[m]? = some (V.int ((sh M n b m c : Nat) : Int)) := by unfold srow vI; rw [List.getElem?_map, List.getElem?_map, List.getElem?_range hm]; rfl
        rw [ex] at hx'
        rw [ey] at hy'
        cases Option.some.inj hx'
        cases Option.some.inj hy'
        have hsm := wy_small ok hov hj1 (by omega) hm
        refine ⟨T2, _, rfl, SqT.of upd_same, rfl, _, _, rfl, _, _, rfl, rfl, rfl, yesT ?_⟩
        have nDT : D2 ≠ T2 := ne_of_none fz hT2
        refine ⟨_, rfl, _, rfl, _, _, rfl, rfl, .inl ⟨by omega, by omega⟩, _, by rw [upd_ne nDT]; exact fz, ?_, Same.put (sz.trans (Same.upd hT2)) hD2, ?_⟩
        · unfold vI; rw [List.length_map, List.length_map, List.length_range]; exact sz_lt (by omega)
        · rw [upd_same, List.range_succ, List.map_append]
          unfold vI
          rw [List.map_append]
          show some (HO.lst (_ ++ [V.int (((wy M b j m : Nat) : Int) * ((sh M n b m c : Nat) : Int))])) = _
          rw [← Int.natCast_mul]; rfl
      rintro H3 ⟨s3, f3⟩
      have e3 : H3 D2 = some (.lst (((List.range M.moves.length).map fun t => ((wy M b j t * sh M n b t c : Nat) : Int)).map V.int)) := by rw [f3]; unfold vI; rw [List.map_map, List.map_map]; rfl
      refine ⟨D2, _, rfl, SqL.of e3, Tak.next hD1 hT s3 ?_ (by rw [tl]; omega)⟩
      rw [sum_cast]
      unfold vI
      rw [List.getElem?_map, List.getElem?_map, hc]
      have hs := wy_sum ok (n := n) hov' j (by omega) (by omega)
      have e4 : ((List.range M.moves.length).map fun q => wy M (b ++ [c]) j q * pcq M q (n - 2 * j) ((b ++ [c]).drop j)) = (List.range M.moves.length).map fun t => wy M b j t * sh M n b t c := by
        refine List.map_congr_left fun t _ => ?_
        rw [wy_app hj1]
        unfold sh
        rw [hj]
      rw [e4] at hs
      show some (V.int ((pcq M 0 n (b ++ [c]) : Nat) : Int)) = _
      rw [hs]
    intro H2 hT
    obtain ⟨s2, e2⟩ := hT.all (by rw [tl]; omega)
    exact kk D1 H2 (s1.trans s2) (s1.free hD1) e2
/-! ### ways_by -/
def spWaysB (C : Addr) : Sp := fun vs H Q _ => ∃ (H0 : Hp) (x pl pw : Addr) (v : V) (M : Mach) (n : Nat) (b : List Nat) (a c : Nat), vs = [.ref x, .int ((a : Nat) : Int)] ∧ Beg H0 C v M n b x pl pw H ∧ M.Ok ∧ b.length < n / 2 ∧ M.L[a]? = some c ∧
  ∀ (l : Addr) (H' : Hp), Same H H' → H l = none → H' l = some (.lst (wrow M (b ++ [c]) (b.length + 1))) → Q (.ref l) H'
abbrev NB7 : List Str := ["self", "place", "grown", "many", "goals", "goal"]
theorem scB7 : FnScope NB7 ["self", "place"] (defScope (stN (clsB (top 31)) 6)) := ⟨rfl, rfl, rfl, by decide +kernel, rfl, by decide +kernel, by decide +kernel⟩
set_option maxHeartbeats 4000000 in
theorem ok_waysB {f fRp C : Addr} {fd fdRp : FuncData} (F : Fun K "ways_by" "Beginning.ways_by" stB7 f fd) (T : BI mg) (kB : Kl K mg "Beginning" C) (nM : NoAttr K C "machine") (nLo : NoAttr K C "long") (nPl : NoAttr K C "places") (nIn : NoAttr K C "inside") (nWa : NoAttr K C "ways") (nRe : NoAttr K C "rest")
    (mRp : Meth K C "row_parts" fRp) (GRp : FnOk P w K mg base CX0 1 fRp fdRp ["self", "first"] (spRowP C)) (bRp : Binds K fdRp ["self", "first"] []) : FnOk P w K mg base CX0 2 f fd ["self", "place"] (spWaysB C) := by
  refine F.ok scB7 (fun vs H Q E h => ?_) (fun cdv A outer s H vs Q E hr h => ?_)
  · obtain ⟨H0, x, pl, pw, v, M, n, b, a, c, rfl, _⟩ := h; rfl
  · obtain ⟨H0, x, pl, pw, v, M, n, b, a, c, rfl, hb, ok, hL, hc, kk⟩ := h
    refine ⟨_, (pss_cons (ps_set (i := 2) scB7.nd rfl (Or.inl rfl) (pe_op op_rep (pe_lst (pa_cons pe_int pa_nil)) (pe_callB call_len_seq (by rfl) T.len PySem.boot_len (pa_cons (pe_ix ix_tup (pe_fld (pv 0) rfl) pe_int (fun _ _ => rfl)) pa_nil))))
      (pss_cons (ps_for PassesOwn.never rfl (pi_zip (by rfl) T.zip (pa_cons (pe_ix ix_list (pe_fld (pv 0) rfl) (pe_un un_neg pe_int) (fun _ _ => rfl)) (pa_cons (pe_meth (pv 0) kB.cl mRp GRp (hr.mono (by decide)) bRp .nil pass0 (pa_cons (pv 1) pa_nil)) pa_nil))) (pg_tup (by rfl) (pgs_cons (pg_name (i := 3) scB7.nd rfl (Or.inl rfl)) (pgs_cons (pg_name (i := 4) scB7.nd rfl (Or.inl rfl)) pgs_nil)))
        (pss_one (ps_for PassesOwn.never rfl (pi_list (pv 4)) (pg_name (i := 5) scB7.nd rfl (Or.inl rfl))
        (pss_one (ps_augS (pv 2) (pv 5) get_listN (pv 3) ip_add set_list)))))
      (pss_one (ps_ret (pv 2))))), ?_⟩
    obtain ⟨dx, pi, pr, rws, wrs, a1, a2, a3, a4, a5, a6, a7, a8, a9, b1, b2, b3, b4⟩ := id hb
    obtain ⟨va, pm, pe, pq, rs, qs, rfl, h1, h2, h3, h4, h5, h6⟩ := id hb.mat
    have hrl : rs.length = M.moves.length := by rw [h3.len, List.length_map]
    have hn40 := ok.n40
    have hLk : M.L.length = M.letters.cps.size := Array.length_toList
    have hk3 : M.letters.cps.size ≤ 3 := ok.let_.k3
    have hcL : c ∈ M.L := List.mem_of_getElem? hc
    have hwl : wrs.length = b.length + 1 := by rw [b3.len, List.length_map, List.length_range]; omega
    -- grown
    refine ⟨by show 1 ≤ sizeLine; decide, fun q1 hq1 => ?_⟩
    have s1 : Same H (upd H q1 (.lst [.int 0])) := Same.upd hq1
    have e1 : (upd H q1 (.lst [.int 0])) q1 = some (.lst [.int 0]) := upd_same
    generalize upd H q1 (.lst [.int 0]) = H1 at s1 e1 ⊢
    have enn : ((rs.length : Nat) : Int).toNat = M.moves.length := by rw [Int.toNat_natCast, hrl]
    refine ⟨_, rfl, x, C, dx, _, _, rfl, s1 _ _ a7, kB.cl, nM, rfl, va, _, _, _, rfl, rfl, SqT.of (s1 _ _ h1), rfl, pm, rs, rfl, .inl (SqL.of (s1 _ _ h2)), q1, _, _, rfl, rfl, e1, by omega, by omega, sz_le (by rw [enn]; show 1 * M.moves.length ≤ _; omega), fun gl hgl => ?_⟩
    rw [enn, flat_repB]
    have hgl0 : H gl = none := s1.free hgl
    have s2 : Same H1 (upd H1 gl (.lst (List.replicate M.moves.length (.int 0)))) := Same.upd hgl
    have e2 : (upd H1 gl (.lst (List.replicate M.moves.length (.int 0)))) gl = some (.lst (List.replicate M.moves.length (.int 0))) := upd_same
    generalize upd H1 gl (.lst (List.replicate M.moves.length (.int 0))) = H2 at s2 e2 ⊢
    have e2' : H2 gl = some (.lst (vI ((List.range M.moves.length).map fun _ => 0))) := by
      rw [e2]
      congr 2
      unfold vI
      rw [List.map_map]
      symm
      rw [List.eq_replicate_iff]
      refine ⟨by rw [List.length_map, List.length_range], fun z hz => ?_⟩
      obtain ⟨q, _, rfl⟩ := List.mem_map.mp hz
      rfl
    have s02 := s1.trans s2
    -- for many, goals in zip(..)
    obtain ⟨rm, hrm, hrmR⟩ := b3.at (i := b.length) (xs := wrow M b b.length) (by rw [List.getElem?_map, List.getElem?_range (by omega)]; rfl)
    have hrmH := msk_le _ _ hrmR
    have hat : atI wrs (-1) = some (V.ref rm) := by rw [at_neg1 (by omega), hwl]; exact hrm
    refine ⟨_, rfl, x, C, dx, _, _, rfl, s02 _ _ a7, kB.cl, nWa, rfl, _, rfl, pw, _, _, _, rfl, rfl, SqL.of (s02 _ _ a9), hat, _, rfl, x, dx, _, rfl, s02 _ _ a7, rfl, _, rfl, H0, x, pl, pw, .ref va, M, n, b, a, c, rfl, hb.same s02, ok, hc, fun lp prs H3 s3 hlp elp Rp hnew => ?_⟩
    have hprl : prs.length = M.moves.length := by rw [Rp.len, List.length_map, List.length_range]
    have s03 := s02.trans s3
    have ngl : ∀ {b' : Addr} {o : HO}, H b' = some o → b' ≠ gl := fun e z => by rw [z, hgl0] at e; cases e
    have e3 := s3 _ _ e2'
    have nlp : lp ≠ gl := fun z => by rw [z, e2] at hlp; cases hlp
    have Kp : ∀ {H' : Hp}, Same (msk H3 [gl]) (msk H' [gl]) → ∀ {b' : Addr} {o : HO}, b' ≠ gl → H3 b' = some o → H' b' = some o := fun s b' o hb' e => msk_le _ _ (s _ _ (by rw [msk_at (by simpa using hb')]; exact e))
    refine ⟨rm, lp, _, _, rfl, SqL.of (s03 _ _ hrmH), SqL.of elp, for_it (J := Itz K rm lp) (n := M.moves.length) (fun i σ H' => ∃ o3 o4 o5, σ = [some (.ref x), some (.int ((a : Nat) : Int)), some (.ref gl), o3, o4, o5] ∧ Same (msk H3 [gl]) (msk H' [gl]) ∧ H' gl = some (.lst (vI ((List.range M.moves.length).map fun g => ((List.range i).map fun q => wy M b b.length q * (M.L.countP fun d => decide (M.stp q (c, d) = g))).sum))))
      ⟨_, _, _, rfl, Same.refl _, e3⟩ (fun i σ H' hi ⟨_, _, _, _, sk, _⟩ => ⟨wrow M b b.length, prs, V.int ((wy M b b.length i : Nat) : Int), prs[i]'(by omega), SqL.of (Kp sk (ngl hrmH) (s03 _ _ hrmH)), SqL.of (Kp sk nlp elp), by unfold wrow vI; rw [List.getElem?_map, List.getElem?_map, List.getElem?_range hi]; rfl, List.getElem?_eq_getElem _⟩)
      (fun σ H' ⟨_, _, _, _, sk, _⟩ => ⟨wrow M b b.length, prs, SqL.of (Kp sk (ngl hrmH) (s03 _ _ hrmH)), SqL.of (Kp sk nlp elp), .inl (by unfold wrow vI; rw [List.length_map, List.length_map, List.length_range]; exact Nat.le_refl _)⟩) ?_ ?_⟩
    · rintro i v2 σ H4 H4' hi ⟨o3, o4, o5, rfl, sk, eg⟩ ⟨T2, x', y', rfl, hT2, rfl, hx', hy'⟩
      have hx' := hx' _ (SqL.of (Kp sk (ngl hrmH) (s03 _ _ hrmH)))
      have hy' := hy' _ (SqL.of (Kp sk nlp elp))
      have ex : (wrow M b b.length)[i]? = some (V.int ((wy M b b.length i : Nat) : Int)) := by unfold wrow vI; rw [List.getElem?_map, List.getElem?_map, List.getElem?_range hi]; rfl
      rw [ex] at hx'
      cases Option.some.inj hx'
      obtain ⟨q, xs, rfl, hxx, hq⟩ := Rp.to hy'
      rw [List.getElem?_map, List.getElem?_range hi] at hxx
      cases Option.some.inj hxx
      have hqn : q ≠ gl := fun z => by
        obtain ⟨p, ep, hp⟩ := hnew _ (List.mem_of_getElem? hy')
        cases ep
        rw [z, e2] at hp; cases hp
      have ngT : gl ≠ T2 := fun z => by rw [← z, eg] at hT2; cases hT2
      have sT : Same H4 (upd H4 T2 (.tup [V.int ((wy M b b.length i : Nat) : Int), .ref q])) := Same.upd hT2
      have eT : (upd H4 T2 (.tup [V.int ((wy M b b.length i : Nat) : Int), .ref q])) T2 = some (.tup [V.int ((wy M b b.length i : Nat) : Int), .ref q]) := upd_same
      generalize upd H4 T2 (.tup [V.int ((wy M b b.length i : Nat) : Int), .ref q]) = H5 at sT eT ⊢
      have sk5 : Same (msk H3 [gl]) (msk H5 [gl]) := sk.trans (msk_same sT)
      have eg5 := sT _ _ eg
      refine ⟨T2, _, rfl, SqT.of eT, rfl, _, _, rfl, _, _, rfl, rfl, ?_⟩
      have pl3 : (prow M i c).length = M.L.length := by unfold prow vI; rw [List.length_map, List.length_map]
      -- for goal in goals
      refine ⟨_, rfl, q, rfl, ⟨_, SqL.of (Kp sk5 hqn hq)⟩, for_list (K := K) (a := q) (xs := prow M i c) (fun t σ H' => ∃ o5, σ = [some (.ref x), some (.int ((a : Nat) : Int)), some (.ref gl), some (V.int ((wy M b b.length i : Nat) : Int)), some (.ref q), o5] ∧ Same (msk H3 [gl]) (msk H' [gl]) ∧ H' gl = some (.lst (vI ((List.range M.moves.length).map fun g => ((List.range i).map fun q => wy M b b.length q * (M.L.countP fun d => decide (M.stp q (c, d) = g))).sum + wy M b b.length i * ((M.L.take t).countP fun d => decide (M.stp i (c, d) = g))))))
        ⟨_, rfl, sk5, by rw [eg5]; simp⟩ (fun t σ H' _ ⟨_, _, sk', _⟩ => SqL.of (Kp sk' hqn hq)) ?_ ?_⟩
      · rintro t v3 σ H6 hv3 ⟨o5', rfl, sk6, eg6⟩
        have ht : t < M.L.length := by have := (List.getElem?_eq_some_iff.mp hv3).1; rwa [pl3] at this
        have hd : M.L[t]? = some (M.L[t]'ht) := List.getElem?_eq_getElem ht
        have hdL : M.L[t]'ht ∈ M.L := List.getElem_mem ht
        have etk : M.L.take (t + 1) = M.L.take t ++ [M.L[t]'ht] := List.take_succ_eq_append_getElem ht
        generalize M.L[t]'ht = d at hd hdL etk
        unfold prow vI at hv3
        rw [List.getElem?_map, List.getElem?_map, hd] at hv3
        cases Option.some.inj hv3
        have hlt := stp_lt ok hi hcL hdL
        refine ⟨_, rfl, _, rfl, gl, _, M.stp i (c, d), _, rfl, rfl, SqL.of eg6, (by unfold vI; rw [List.getElem?_map, List.getElem?_map, List.getElem?_range hlt]; rfl), _, rfl, _, _, rfl, rfl, gl, _, _, M.stp i (c, d), rfl, rfl, eg6, ixN_nat (by unfold vI; rw [List.length_map, List.length_map, List.length_range]; exact hlt), ?_⟩
        refine ⟨_, rfl, ?_, ?_⟩
        · rw [msk_upd (by simp)]; exact sk6
        · rw [upd_same, etk]
          have es := map_range_set (n := M.moves.length) (g := M.stp i (c, d)) (G := fun g => ((List.range i).map fun q => wy M b b.length q * (M.L.countP fun d => decide (M.stp q (c, d) = g))).sum + wy M b b.length i * ((M.L.take t).countP fun d => decide (M.stp i (c, d) = g)))
            (x := (((List.range i).map fun q => wy M b b.length q * (M.L.countP fun d' => decide (M.stp q (c, d') = M.stp i (c, d)))).sum + wy M b b.length i * ((M.L.take t).countP fun d' => decide (M.stp i (c, d') = M.stp i (c, d)))) + wy M b b.length i) hlt
          show some (HO.lst ((vI _).set (M.stp i (c, d)) (V.int ((((((List.range i).map fun q => wy M b b.length q * (M.L.countP fun d' => decide (M.stp q (c, d') = M.stp i (c, d)))).sum + wy M b b.length i * ((M.L.take t).countP fun d' => decide (M.stp i (c, d') = M.stp i (c, d))) : Nat)) : Int) + ((wy M b b.length i : Nat) : Int))))) = _
          rw [← Int.natCast_add, es]
          congr 3
          refine List.map_congr_left fun g _ => ?_
          rw [List.countP_append, List.countP_singleton]
          by_cases e : g = M.stp i (c, d)
          · subst e
            rw [if_pos rfl]
            simp [Nat.mul_add, Nat.add_assoc]
          · rw [if_neg e]
            have e' : ¬ M.stp i (c, d) = g := fun z => e z.symm
            simp [e']
      · rintro σ H6 ⟨o5', rfl, sk6, eg6⟩
        refine ⟨_, _, _, rfl, sk6, ?_⟩
        rw [eg6, pl3, List.take_length]
        congr 2
        congr 1
        refine List.map_congr_left fun g _ => ?_
        rw [List.range_succ, List.map_append, List.sum_append]
        simp
    rintro σ H4 ⟨o3, o4, o5, rfl, sk, eg⟩
    refine ⟨_, rfl, kk gl H4 (fun b' o e => Kp sk (ngl e) (s03 _ _ e)) hgl0 ?_⟩
    rw [eg]
    congr 2
    unfold wrow
    congr 1
    refine List.map_congr_left fun g _ => ?_
    show _ = ((List.range M.moves.length).map fun q => wy M (b ++ [c]) b.length q * (M.L.countP fun d => decide (M.stp q ((b ++ [c]).getD b.length 0, d) = g))).sum
    have e : (b ++ [c]).getD b.length 0 = c := by rw [List.getD_eq_getElem?_getD, List.getElem?_append_right (Nat.le_refl _), Nat.sub_self]; rfl
    rw [e]
    congr 1
    refine List.map_congr_left fun q _ => ?_
    rw [wy_app (Nat.le_refl _)]
/-! ### take -/
def spTakeB (C : Addr) : Sp := fun vs H Q _ => ∃ (H0 : Hp) (x pl pw : Addr) (v : V) (M : Mach) (n : Nat) (b : List Nat) (a c : Nat), vs = [.ref x, .int ((a : Nat) : Int)] ∧ Beg H0 C v M n b x pl pw H ∧ M.Ok ∧ b.length < n ∧ n ≤ 60 ∧ (∀ c ∈ b, c ∈ M.L) ∧ M.L[a]? = some c ∧
  ∀ H' : Hp, Beg H0 C v M n (b ++ [c]) x pl pw H' → Q .non H'
abbrev NB6 : List Str := ["self", "place"]
theorem scB6 : FnScope NB6 ["self", "place"] (defScope (stN (clsB (top 31)) 5)) := ⟨rfl, rfl, rfl, by decide +kernel, rfl, by decide +kernel, by decide +kernel⟩
set_option maxHeartbeats 4000000 in
theorem ok_takeB {f fLh fSh fWb C : Addr} {fd fdLh fdSh fdWb : FuncData} (F : Fun K "take" "Beginning.take" stB6 f fd) (T : BI mg) (kB : Kl K mg "Beginning" C) (nM : NoAttr K C "machine") (nLo : NoAttr K C "long") (nPl : NoAttr K C "places") (nIn : NoAttr K C "inside") (nWa : NoAttr K C "ways") (nRe : NoAttr K C "rest")
    (mLh : Meth K C "in_left_half" fLh) (GLh : FnOk P w K mg base CX0 1 fLh fdLh ["self"] (spLeftB C)) (bLh : Binds K fdLh ["self"] [])
    (mSh : Meth K C "shares" fSh) (GSh : FnOk P w K mg base CX0 2 fSh fdSh ["self"] (spSharesB C)) (bSh : Binds K fdSh ["self"] [])
    (mWb : Meth K C "ways_by" fWb) (GWb : FnOk P w K mg base CX0 2 fWb fdWb ["self", "place"] (spWaysB C)) (bWb : Binds K fdWb ["self", "place"] []) : FnOk P w K mg base CX0 3 f fd ["self", "place"] (spTakeB C) := by
  refine F.ok scB6 (fun vs H Q E h => ?_) (fun cdv A outer s H vs Q E hr h => ?_)
  · obtain ⟨H0, x, pl, pw, v, M, n, b, a, c, rfl, _⟩ := h; rfl
  · obtain ⟨H0, x, pl, pw, v, M, n, b, a, c, rfl, hb, ok, hbn, hn, hov, hc, kk⟩ := h
    refine ⟨_, (pss_cons (ps_if (pt_val (pe_meth0 (pv 0) kB.cl mLh GLh (hr.mono (by decide)) bLh .nil pass0)) (pss_one (ps_expr (pe_bm PySem.F.plainAttrs_list PySem.F.slot_list_append PySem.F.type_list_append mt_append (pe_fld (pv 0) rfl) (pa_cons (pe_meth (pv 0) kB.cl mWb GWb (hr.mono (by decide)) bWb .nil pass0 (pa_cons (pv 1) pa_nil)) pa_nil)))) (pss_one (ps_fld (pv 0) (pe_ix ix_list (pe_meth0 (pv 0) kB.cl mSh GSh (hr.mono (by decide)) bSh .nil pass0) (pv 1) (fun _ _ => rfl)) rfl)))
      (pss_one (ps_expr (pe_bm PySem.F.plainAttrs_list PySem.F.slot_list_append PySem.F.type_list_append mt_append (pe_fld (pv 0) rfl) (pa_cons (pv 1) pa_nil))))), ?_⟩
    obtain ⟨dx, pi, pr, rws, wrs, a1, a2, a3, a4, a5, a6, a7, a8, a9, b1, b2, b3, b4⟩ := id hb
    have hLk : M.L.length = M.letters.cps.size := Array.length_toList
    have hcL : c ∈ M.L := List.mem_of_getElem? hc
    have hcx : M.ix c = a := by
      obtain ⟨h1, h2⟩ := List.getElem?_eq_some_iff.mp hc
      show M.L.idxOf c = a
      rw [← h2]; exact (LetOk.nodup ok.let_).idxOf_getElem a h1
    have hwl : wrs.length = min b.length (n / 2) + 1 := by rw [b3.len, List.length_map, List.length_range]
    have hlb : (b ++ [c]).length = b.length + 1 := List.length_append
    have nxp : x ≠ pl := ne_of a7 a8 (by intro z; cases z)
    have nxw : x ≠ pw := ne_of a7 a9 (by intro z; cases z)
    have epl : vI (b.map M.ix) ++ [V.int ((a : Nat) : Int)] = vI ((b ++ [c]).map M.ix) := by rw [List.map_append]; unfold vI; rw [List.map_append]; simp [hcx]
    refine ⟨_, rfl, x, dx, _, rfl, a7, rfl, ?_⟩
    unfold tNil
    refine ⟨H0, x, pl, pw, v, M, n, b, rfl, hb, ⟨_, rfl, ite2D (fun hL => ?_) (fun hL => ?_)⟩⟩
    · have hL' : b.length < n / 2 := hL
      -- ways.append
      refine ⟨_, rfl, x, C, dx, _, _, rfl, a7, kB.cl, nWa, rfl, .inl ⟨rfl, _, SqL.of a9⟩, _, rfl, x, dx, _, rfl, a7, rfl, _, rfl, H0, x, pl, pw, v, M, n, b, a, c, rfl, hb, ok, hL', hc, fun lw H1 s1 hlw elw => ?_⟩
      have w1 := s1 _ _ a9
      have x1 := s1 _ _ a7
      have p1 := s1 _ _ a8
      refine ⟨pw, _, _, rfl, rfl, w1, sz_lt (by omega), ?_⟩
      have nlx : lw ≠ x := fun z => by rw [z, a7] at hlw; cases hlw
      have nlp : lw ≠ pl := fun z => by rw [z, a8] at hlw; cases hlw
      have nlw : lw ≠ pw := fun z => by rw [z, a9] at hlw; cases hlw
      have s2 : Same H0 (upd H1 pw (.lst (wrs ++ [.ref lw]))) := Same.put (a1.trans s1) a4
      have w2 : (upd H1 pw (.lst (wrs ++ [.ref lw]))) pw = some (.lst (wrs ++ [.ref lw])) := upd_same
      have x2 : (upd H1 pw (.lst (wrs ++ [.ref lw]))) x = some (.ins C dx (bFl v n pl pi pw pr)) := by rw [upd_ne nxw]; exact x1
      have p2 : (upd H1 pw (.lst (wrs ++ [.ref lw]))) pl = some (.lst (vI (b.map M.ix))) := by rw [upd_ne a5]; exact p1
      have m2 : msk (upd H1 pw (.lst (wrs ++ [.ref lw]))) [x, pl, pw] = msk H1 [x, pl, pw] := msk_upd (by simp)
      have l2 : msk H1 [x, pl, pw] lw = some (.lst (wrow M (b ++ [c]) (b.length + 1))) := by rw [msk_at (by simp [nlx, nlp, nlw])]; exact elw
      generalize upd H1 pw (.lst (wrs ++ [.ref lw])) = H2 at s2 w2 x2 p2 m2 ⊢
      -- places.append
      refine ⟨_, rfl, x, C, dx, _, _, rfl, x2, kB.cl, nPl, rfl, .inl ⟨rfl, _, SqL.of p2⟩, _, rfl, pl, _, _, rfl, rfl, p2, sz_lt (by unfold vI; rw [List.length_map, List.length_map]; omega), ?_⟩
      rw [epl]
      have m3 : msk (upd H2 pl (.lst (vI ((b ++ [c]).map M.ix)))) [x, pl, pw] = msk H2 [x, pl, pw] := msk_upd (by simp)
      have mm := msk_same (S := [x, pl, pw]) s1
      refine kk _ ⟨dx, pi, pr, rws, wrs ++ [.ref lw], Same.put s2 a3, a2, a3, a4, a5, a6, by rw [upd_ne nxp]; exact x2, upd_same, by rw [upd_ne a5.symm]; exact w2, by rw [m3, m2]; exact mm _ _ b1, by rw [m3, m2]; exact b2.same mm, ?_, ?_⟩
      · rw [m3, m2, hlb, Nat.min_eq_left (by omega), List.range_succ, List.map_append]
        have e1 : ((List.range (b.length + 1)).map fun j => wrow M (b ++ [c]) j) = (List.range (min b.length (n / 2) + 1)).map fun j => wrow M b j := by
          rw [Nat.min_eq_left (by omega)]
          refine List.map_congr_left fun j hj => ?_
          have := List.mem_range.mp hj
          unfold wrow
          congr 1
          refine List.map_congr_left fun q _ => ?_
          exact wy_app (by omega)
        rw [e1]
        exact Paired.snoc (b3.same mm) ⟨lw, rfl, l2⟩
      · rw [m3, m2, List.drop_eq_nil_of_le (by omega)]
        rw [List.drop_eq_nil_of_le (by omega)] at b4
        exact mm _ _ b4
    · have hL' : ¬ b.length < n / 2 := hL
      -- rest = shares()[place]
      refine ⟨_, rfl, x, dx, _, rfl, a7, rfl, ?_⟩
      refine ⟨H0, x, pl, pw, v, M, n, b, rfl, hb, ok, hbn, hn, hov, fun ls srs H1 s1 hls els Rs hnew => ?_⟩
      obtain ⟨ra, hra, hraR⟩ := Rs.at (i := a) (xs := srow M n b c) (by rw [List.getElem?_map, hc]; rfl)
      have w1 := s1 _ _ a9
      have x1 := s1 _ _ a7
      have p1 := s1 _ _ a8
      refine ⟨_, rfl, ls, _, _, _, rfl, rfl, SqL.of els, atI_nat hra, _, rfl, x, C, dx, _, rfl, x1, kB.cl, nRe, by show 6 < 1000; decide, ?_⟩
      have eput : putF "rest" (V.ref ra) (bFl v n pl pi pw pr) = bFl v n pl pi pw ra := by
        unfold bFl
        rw [putF_ne (by decide), putF_ne (by decide), putF_ne (by decide), putF_ne (by decide), putF_ne (by decide), putF_eq]
      rw [eput]
      have hran : H ra = none := by
        obtain ⟨p, ep, hp⟩ := hnew _ (List.mem_of_getElem? hra)
        cases ep; exact hp
      have nrx : ra ≠ x := fun z => by rw [z, a7] at hran; cases hran
      have nrp : ra ≠ pl := fun z => by rw [z, a8] at hran; cases hran
      have nrw : ra ≠ pw := fun z => by rw [z, a9] at hran; cases hran
      have s2 : Same H0 (upd H1 x (.ins C dx (bFl v n pl pi pw ra))) := Same.put (a1.trans s1) a2
      have x2 : (upd H1 x (.ins C dx (bFl v n pl pi pw ra))) x = some (.ins C dx (bFl v n pl pi pw ra)) := upd_same
      have p2 : (upd H1 x (.ins C dx (bFl v n pl pi pw ra))) pl = some (.lst (vI (b.map M.ix))) := by rw [upd_ne nxp.symm]; exact p1
      have w2 : (upd H1 x (.ins C dx (bFl v n pl pi pw ra))) pw = some (.lst wrs) := by rw [upd_ne nxw.symm]; exact w1
      have m2 : msk (upd H1 x (.ins C dx (bFl v n pl pi pw ra))) [x, pl, pw] = msk H1 [x, pl, pw] := msk_upd (by simp)
      have l2 : msk H1 [x, pl, pw] ra = some (.lst (srow M n b c)) := by rw [msk_at (by simp [nrx, nrp, nrw])]; exact hraR
      generalize upd H1 x (.ins C dx (bFl v n pl pi pw ra)) = H2 at s2 x2 p2 w2 m2 ⊢
      refine ⟨_, rfl, x, C, dx, _, _, rfl, x2, kB.cl, nPl, rfl, .inl ⟨rfl, _, SqL.of p2⟩, _, rfl, pl, _, _, rfl, rfl, p2, sz_lt (by unfold vI; rw [List.length_map, List.length_map]; omega), ?_⟩
      rw [epl]
      have m3 : msk (upd H2 pl (.lst (vI ((b ++ [c]).map M.ix)))) [x, pl, pw] = msk H2 [x, pl, pw] := msk_upd (by simp)
      have mm := msk_same (S := [x, pl, pw]) s1
      refine kk _ ⟨dx, pi, ra, rws, wrs, Same.put s2 a3, a2, a3, a4, a5, a6, by rw [upd_ne nxp]; exact x2, upd_same, by rw [upd_ne a5.symm]; exact w2, by rw [m3, m2]; exact mm _ _ b1, by rw [m3, m2]; exact b2.same mm, ?_, ?_⟩
      · rw [m3, m2, hlb, show min (b.length + 1) (n / 2) = min b.length (n / 2) by omega]
        have e1 : ((List.range (min b.length (n / 2) + 1)).map fun j => wrow M (b ++ [c]) j) = (List.range (min b.length (n / 2) + 1)).map fun j => wrow M b j := by
          refine List.map_congr_left fun j hj => ?_
          have := List.mem_range.mp hj
          unfold wrow
          congr 1
          refine List.map_congr_left fun q _ => ?_
          exact wy_app (by omega)
        rw [e1]
        exact b3.same mm
      · rw [m3, m2, l2]
        have e : srow M n b c = rrow M ((b ++ [c]).drop (n - (b ++ [c]).length)) := by
          unfold srow rrow
          congr 1
          refine List.map_congr_left fun q _ => ?_
          exact sh_rest hL' hbn
        rw [e]
end
end Be

namespace Be
open PySem L2
theorem Beg.up {H0 : Hp} {C : Addr} {v : V} {M : Mach} {n : Nat} {b : List Nat} {x pl pw : Addr} {H : Hp} (h : Beg H0 C v M n b x pl pw H) : Beg (msk H [x, pl, pw]) C v M n b x pl pw H := by
  obtain ⟨dx, pi, pr, rws, wrs, a1, a2, a3, a4, a5, a6, a7, a8, a9, b1, b2, b3, b4⟩ := h
  have s : Same H0 (msk H [x, pl, pw]) := fun b o e => by
    have hb : b ∉ [x, pl, pw] := fun z => by
      simp at z
      rcases z with rfl | rfl | rfl
      · rw [a2] at e; cases e
      · rw [a3] at e; cases e
      · rw [a4] at e; cases e
    rw [msk_at hb]; exact a1 _ _ e
  have m : ∀ a ∈ [x, pl, pw], msk H [x, pl, pw] a = none := fun a ha => by unfold msk; rw [if_pos ha]
  exact ⟨dx, pi, pr, rws, wrs, msk_le, m x (by simp), m pl (by simp), m pw (by simp), a5, a6.same s, a7, a8, a9, b1, b2, b3, b4⟩
theorem Beg.kp {H0 : Hp} {C : Addr} {v : V} {M : Mach} {n : Nat} {b : List Nat} {x pl pw : Addr} {H : Hp} (h : Beg H0 C v M n b x pl pw H) : Same H0 H := by
  obtain ⟨dx, pi, pr, rws, wrs, a1, _⟩ := h
  exact a1
theorem Beg.ins {H0 : Hp} {C : Addr} {v : V} {M : Mach} {n : Nat} {b : List Nat} {x pl pw : Addr} {H : Hp} (h : Beg H0 C v M n b x pl pw H) : ∃ dx pi pr, H x = some (.ins C dx (bFl v n pl pi pw pr)) := by
  obtain ⟨dx, pi, pr, rws, wrs, a1, a2, a3, a4, a5, a6, a7, _⟩ := h
  exact ⟨dx, pi, pr, a7⟩
/-- a new object stays when the beginning goes on -/
theorem Beg.keep {H0 H0' : Hp} {C : Addr} {v : V} {M : Mach} {n : Nat} {b b' : List Nat} {x pl pw l : Addr} {H H' : Hp} {o : HO} (h' : Beg (msk H [x, pl, pw]) C v M n b' x pl pw H') (hl : l ∉ [x, pl, pw]) (e : H l = some o) : H' l = some o := h'.kp _ _ (by rw [msk_at hl]; exact e)
theorem ite2nE {p : Prop} [Decidable p] {A B : Prop} (h1 : ¬ p → A) (h2 : p → B) : if (!decide p) = true then A else B := by
  by_cases h : p
  · rw [decide_eq_true h]; exact h2 h
  · rw [decide_eq_false h]; exact h1 h
theorem join_mk (b : List Nat) : Txt.join "" (b.map fun c => (⟨#[c]⟩ : Str)) = mkS b := by
  refine TL.ext_tl ?_
  rw [TL.join_eq, TL.tl_join]
  show TL.joinL [] _ = (mkS b).cps.toList
  rw [mkS_list, List.map_map]
  induction b with
  | nil => rfl
  | cons c b ih =>
    cases b with
    | nil => rfl
    | cons d b =>
      show [c] ++ ([] ++ TL.joinL [] ((d :: b).map (TL.tl ∘ fun c => (⟨#[c]⟩ : Str)))) = _
      rw [ih]; rfl
theorem rows_put {H : Hp} {l : Addr} {o : HO} : ∀ {rs : List V} {xss : List (List V)}, Rows H rs xss → (∀ r ∈ rs, r ≠ V.ref l) → Rows (upd H l o) rs xss
  | _, _, .nil, _ => .nil
  | _, _, .cons ⟨p, e, q⟩ t, h => .cons ⟨p, e, by
      rw [upd_ne (fun z => h _ (List.mem_cons_self ..) (by rw [e, z]))]; exact q⟩ (rows_put t fun r hr => h r (List.mem_cons_of_mem _ hr))
theorem msk_put {H : Hp} {S : List Addr} {l : Addr} {o : HO} (hl : l ∉ S) : msk (upd H l o) S = upd (msk H S) l o := by
  funext b
  by_cases hb : b = l
  · subst hb
    rw [msk_at hl, upd_same, upd_same]
  · rw [upd_ne hb]
    by_cases hS : b ∈ S
    · unfold msk; rw [if_pos hS, if_pos hS]
    · rw [msk_at hS, msk_at hS, upd_ne hb]
theorem lst_ne {xs ys : List V} {z : V} (hx : z ∈ xs) (hz : ∀ s, z ≠ .str s) (hy : ∀ v ∈ ys, ∃ s, v = V.str s) : HO.lst ys ≠ HO.lst xs := fun e => by
  injection e with e
  rw [← e] at hx
  obtain ⟨s, es⟩ := hy z hx
  exact hz s es
/-- a list of texts beside it is changed -/
theorem Beg.put {H0 : Hp} {C : Addr} {v : V} {M : Mach} {n : Nat} {b : List Nat} {x pl pw l : Addr} {H : Hp} {ys zs : List V} (ok : M.Ok) (h : Beg H0 C v M n b x pl pw H) (hl : l ∉ [x, pl, pw]) (e : H l = some (.lst ys)) (hy : ∀ v ∈ ys, ∃ s, v = V.str s)
    (hM : MAt (msk (upd H l (.lst zs)) [x, pl, pw]) v M) : Beg (msk (upd H l (.lst zs)) [x, pl, pw]) C v M n b x pl pw (upd H l (.lst zs)) := by
  obtain ⟨dx, pi, pr, rws, wrs, a1, a2, a3, a4, a5, a6, a7, a8, a9, b1, b2, b3, b4⟩ := h
  have m : ∀ a ∈ [x, pl, pw], msk (upd H l (.lst zs)) [x, pl, pw] a = none := fun a ha => by unfold msk; rw [if_pos ha]
  have hn1 := ok.n1
  have em : msk H [x, pl, pw] l = some (.lst ys) := by rw [msk_at hl]; exact e
  have nx : x ≠ l := fun z => hl (by rw [← z]; simp)
  have np : pl ≠ l := fun z => hl (by rw [← z]; simp)
  have nw : pw ≠ l := fun z => hl (by rw [← z]; simp)
  have z0 : ∀ (f : Nat → Nat), V.int ((f 0 : Nat) : Int) ∈ vI ((List.range M.moves.length).map f) := fun f => by
    unfold vI
    exact List.mem_map.mpr ⟨f 0, List.mem_map.mpr ⟨0, List.mem_range.mpr hn1, rfl⟩, rfl⟩
  have npi : pi ≠ l := fun z => by
    rw [z, em] at b1
    obtain ⟨r, hr, _⟩ := b2.at (i := 0) (xs := crow M (n % 2 + 2 * 0)) (by rw [List.getElem?_map, List.getElem?_range (by omega)]; rfl)
    exact lst_ne (List.mem_of_getElem? hr) (fun s z => by cases z) hy (Option.some.inj b1)
  have npr : pr ≠ l := fun z => by
    rw [z, em] at b4
    exact lst_ne (z0 _) (fun s z => by cases z) hy (Option.some.inj b4)
  have nr : ∀ r ∈ rws, r ≠ V.ref l := rows_ne em b2 fun xs hxs z => by
    obtain ⟨j, _, rfl⟩ := List.mem_map.mp hxs
    refine lst_ne (z := V.int ((M.cnt (n % 2 + 2 * j) 0 : Nat) : Int)) ?_ (fun s z => by cases z) hy z
    unfold crow
    exact List.mem_map.mpr ⟨0, List.mem_range.mpr hn1, rfl⟩
  have nwr : ∀ r ∈ wrs, r ≠ V.ref l := rows_ne em b3 fun xs hxs z => by
    obtain ⟨j, _, rfl⟩ := List.mem_map.mp hxs
    exact lst_ne (z0 _) (fun s z => by cases z) hy z
  refine ⟨dx, pi, pr, rws, wrs, msk_le, m x (by simp), m pl (by simp), m pw (by simp), a5, hM, by rw [upd_ne nx]; exact a7, by rw [upd_ne np]; exact a8, by rw [upd_ne nw]; exact a9, ?_, ?_, ?_, ?_⟩
  · rw [msk_put hl, upd_ne npi]; exact b1
  · rw [msk_put hl]; exact rows_put b2 nr
  · rw [msk_put hl]; exact rows_put b3 nwr
  · rw [msk_put hl, upd_ne npr]; exact b4

theorem sum_natI : ∀ l : List Nat, (l.map fun x => ((x : Nat) : Int)).sum = ((l.sum : Nat) : Int)
  | [] => rfl
  | x :: l => by rw [List.map_cons, List.sum_cons, List.sum_cons, sum_natI l]; omega
theorem cut_natI (l : List Nat) (k : Nat) : cutV (vI l) none (some ((k : Nat) : Int)) = ((l.take k).map fun x => ((x : Nat) : Int)).map V.int := by
  unfold cutV vI
  rw [HT.sIx_none, HT.sIx_nat, List.drop_zero, Nat.sub_zero, List.map_map, List.map_take, List.length_map]
  by_cases h : k ≤ l.length
  · rw [Nat.min_eq_left h]; rfl
  · rw [Nat.min_eq_right (by omega), List.take_of_length_le (by simp), List.take_of_length_le (by simp; omega)]; rfl

section
variable {P : Program} {w : World} {K : PySem.W.Frag} {mg : Str → Option Value} {base : Heap}
/-! ### word_by -/
def spWordBy : Sp := fun vs H Q _ => ∃ (v : V) (M : Mach) (n i : Nat) (y : List Nat), vs = [v, .int ((n : Nat) : Int), .int ((i : Nat) : Int)] ∧ MAt H v M ∧ M.Ok ∧ n ≤ 60 ∧ (pw M n [])[i]? = some y ∧ ∀ H', Same H H' → Q (.str (mkS y)) H'
abbrev NWb : List Str := ["machine", "long", "number", "words", "beginning", "letters", "ahead", "place", "counts", "at"]
theorem scWb : FnScope NWb ["machine", "long", "number"] (defScope (top 33)) := ⟨rfl, rfl, rfl, by decide +kernel, rfl, by decide +kernel, by decide +kernel⟩
set_option maxHeartbeats 4000000 in
theorem ok_wordby {f fHm f7 fIB fCo fTa C : Addr} {fd fdHm fd7 fdIB fdCo fdTa : FuncData} (D : Def K mg "word_by" (top 33) ["machine", "long", "number"] f fd) (T : BI mg)
    (DHm : Def K mg "how_many" (top 32) ["machine", "long"] fHm fdHm) (GHm : FnOk P w K mg base CX0 7 fHm fdHm ["machine", "long"] spHowMany)
    (D7 : Def K mg "is_number" (top 10) ["value"] f7 fd7) (G7 : FnOk P w K mg base CX0 1 f7 fd7 ["value"] spIsNumber)
    (kB : Kl K mg "Beginning" C) (MIB : Mk K C fIB) (GIB : FnOk P w K mg base CX0 2 fIB fdIB ["self", "machine", "long"] (spInitB C)) (bIB : Binds K fdIB ["self", "machine", "long"] [])
    (mCo : Meth K C "counts" fCo) (GCo : FnOk P w K mg base CX0 3 fCo fdCo ["self"] (spCountsB C)) (bCo : Binds K fdCo ["self"] [])
    (mTa : Meth K C "take" fTa) (GTa : FnOk P w K mg base CX0 3 fTa fdTa ["self", "place"] (spTakeB C)) (bTa : Binds K fdTa ["self", "place"] []) : FnOk P w K mg base CX0 8 f fd ["machine", "long", "number"] spWordBy := by
  refine D.F.ok scWb (fun vs H Q E h => ?_) (fun cdv A outer s H vs Q E hr h => ?_)
  · obtain ⟨v, M, n, i, y, rfl, _⟩ := h; rfl
  · obtain ⟨v, M, n, i, y, rfl, hM, ok, hn, hy, kk⟩ := h
    refine ⟨_, (pss_cons (ps_set (i := 3) scWb.nd rfl (Or.inl rfl) (pe_call GHm (hr.mono (by decide)) (by rfl) DHm.m DHm.F.kp DHm.b .nil pass0 (pa_cons (pv 0) (pa_cons (pv 1) pa_nil))))
      (pss_cons (ps_if (PW.pt (pw_or (pt_not (pt_val (pe_call G7 (hr.mono (by decide)) (by rfl) D7.m D7.F.kp D7.b .nil pass0 (pa_cons (pv 2) pa_nil)))) (pw_or1 (pt_not (pt_chain op_le op_lt pe_int (pv 2) (pv 3)))))) pss_never pss_nil)
      (pss_cons (ps_set (i := 4) scWb.nd rfl (Or.inl rfl) (pe_make MIB GIB (hr.mono (by decide)) (by rfl) kB.m bIB .nil pass0 (pa_cons (pv 0) (pa_cons (pv 1) pa_nil))))
      (pss_cons (ps_set (i := 5) scWb.nd rfl (Or.inl rfl) (pe_lst pa_nil))
      (pss_cons (ps_set (i := 6) scWb.nd rfl (Or.inl rfl) (pv 2))
      (pss_cons (ps_for PassesOwn.never rfl (pi_range1 (by rfl) T.range (pa_cons (pv 1) pa_nil)) (pg_name (i := 7) scWb.nd rfl (Or.inl rfl))
        (pss_cons (ps_set (i := 8) scWb.nd rfl (Or.inl rfl) (pe_meth0 (pv 4) kB.cl mCo GCo (hr.mono (by decide)) bCo .nil pass0))
      (pss_cons (ps_set (i := 9) scWb.nd rfl (Or.inl rfl) pe_int)
      (pss_cons (ps_while PassesOwn.never (pt_cmp (pc_ge (pv 6) (pe_ix ix_list (pv 8) (pv 9) (fun _ _ => rfl))))
        (pss_cons (ps_aug (i := 6) scWb.nd rfl (.inl rfl) (pe_ix ix_list (pv 8) (pv 9) (fun _ _ => rfl)) ip_sub)
      (pss_one (ps_aug (i := 9) scWb.nd rfl (.inl rfl) pe_int ip_add))))
      (pss_cons (ps_expr (pe_meth (pv 4) kB.cl mTa GTa (hr.mono (by decide)) bTa .nil pass0 (pa_cons (pv 9) pa_nil)))
      (pss_one (ps_expr (pe_bm PySem.F.plainAttrs_list PySem.F.slot_list_append PySem.F.type_list_append mt_append (pv 5) (pa_cons (pe_ix ix_str (pe_ix ix_tup (pv 0) pe_int (fun _ _ => rfl)) (pv 9) (fun _ _ => rfl)) pa_nil)))))))))
      (pss_one (ps_ret (pe_join pe_str (pv 5)))))))))), ?_⟩
    obtain ⟨va, pm, pe, pq, rs, qs, rfl, h1, h2, h3, h4, h5, h6⟩ := id hM
    have hLk : M.L.length = M.letters.cps.size := Array.length_toList
    have hk3 : M.letters.cps.size ≤ 3 := ok.let_.k3
    have hzL : M.letters.length ≤ sizeLine := sz_le (by show M.letters.cps.size ≤ _; omega)
    obtain ⟨hyl, hyo, hyh⟩ := pw_mem.mp (List.mem_of_getElem? hy)
    have hyn : y.length = n := by simpa using hyl
    have hil := (List.getElem?_eq_some_iff.mp hy).1
    rw [pw_len] at hil
    have hcn : pcq M 0 n [] = M.cnt n 0 := by
      unfold pcq
      rw [List.length_nil, Nat.sub_zero]
      exact cnt_texts ok n 0 ok.n1
    rw [hcn] at hil
    -- words
    refine ⟨_, rfl, _, rfl, .ref va, M, n, rfl, hM, ok, hn, fun H1 s1 => ?_⟩
    -- the number is one
    refine ⟨_, rfl, _, rfl, _, rfl, iteF ?_⟩
    refine ⟨_, rfl, _, _, rfl, rfl, _, rfl, iteD (by omega) ⟨_, rfl, _, _, rfl, rfl, _, rfl, ite2nE (fun hc => absurd (show ((i : Nat) : Int) < ((M.cnt n 0 : Nat) : Int) by omega) hc) (fun _ => ?_)⟩⟩
    -- Beginning(machine, long)
    refine ⟨_, rfl, _, rfl, fun x dx hx hdx nex => ⟨x, dx, .ref va, M, n, H1, rfl, upd_same, (fun b o e => by rw [upd_ne (ne_of_none e hx), upd_ne (ne_of_none e hdx)]; exact e), hx, hM.same s1, ok, hn, fun pl pW H2 hb => ⟨rfl, ?_⟩⟩⟩
    have s2 := hb.kp
    have hS0 : ∀ a ∈ [x, pl, pW], H a = none := by
      obtain ⟨dx', pi, pr, rws, wrs, a1, a2, a3, a4, _⟩ := id hb
      intro a ha
      simp at ha
      rcases ha with rfl | rfl | rfl
      · exact s1.free a2
      · exact s1.free a3
      · exact s1.free a4
    -- letters
    refine ⟨by show 0 ≤ sizeLine; decide, fun lf hlf => ?_⟩
    have hb2 := hb.up
    have sl3 : Same H2 (upd H2 lf (.lst [])) := Same.upd hlf
    have e3 : (upd H2 lf (.lst [])) lf = some (.lst []) := upd_same
    have nlf : lf ∉ [x, pl, pW] := fun z => by
      obtain ⟨dx', pi, pr, rws, wrs, a1, a2, a3, a4, a5, a6, a7, a8, a9, _⟩ := hb
      simp at z
      rcases z with rfl | rfl | rfl
      · rw [hlf] at a7; cases a7
      · rw [hlf] at a8; cases a8
      · rw [hlf] at a9; cases a9
    generalize upd H2 lf (.lst []) = H3 at sl3 e3 ⊢
    have hb3 := hb.same sl3
    have s03 := s1.trans (s2.trans sl3)
    have tn : ((n : Nat) : Int).toNat = n := Int.toNat_natCast _
    refine ⟨_, rfl, ?_⟩
    refine ⟨_, rfl, ((n : Nat) : Int), rfl, by omega, by omega, for_range (lo := 0) (n := ((n : Nat) : Int).toNat) (fun t σ H' => ∃ (ah : Nat) (r : List Nat) (o7 o8 o9 : Option V), σ = [some (.ref va), some (.int ((n : Nat) : Int)), some (.int ((i : Nat) : Int)), some (.int ((M.cnt n 0 : Nat) : Int)), some (.ref x), some (.ref lf), some (.int ((ah : Nat) : Int)), o7, o8, o9] ∧
      Same H H' ∧ y.take t ++ r = y ∧ (pw M n (y.take t))[ah]? = some r ∧ Beg (msk H' [x, pl, pW]) C (.ref va) M n (y.take t) x pl pW H' ∧ H' lf = some (.lst ((y.take t).map fun c => V.str ⟨#[c]⟩)))
      ⟨i, y, _, _, _, rfl, s03, by simp, by simpa using hy, by simpa using hb3.up, by simpa using e3⟩ ?_ ?_⟩
    · rintro t σ H4 ht ⟨ah, r, o7, o8, o9, rfl, s4, er, hp, hb4, hlf4⟩
      rw [tn] at ht
      have hty : t < y.length := by omega
      have htl : (y.take t).length = t := by rw [List.length_take]; omega
      have hov : ∀ c ∈ y.take t, c ∈ M.L := fun c hc => hyo c (List.mem_of_mem_take hc)
      have htk : y.take (t + 1) = y.take t ++ [y[t]'hty] := List.take_succ_eq_append_getElem hty
      have hdr : r = y.drop t := by
        have := er
        conv at this => rhs; rw [← List.take_append_drop t y]
        exact List.append_cancel_left this
      generalize hbt : y.take t = b at htl hov htk er hp hb4 hlf4 ⊢
      obtain ⟨dx4, pi4, pr4, hx4⟩ := hb4.ins
      -- counts
      refine ⟨_, rfl, x, dx4, _, rfl, hx4, rfl, ?_⟩
      unfold tNil
      refine ⟨msk H4 [x, pl, pW], x, pl, pW, .ref va, M, n, b, rfl, hb4, ok, by omega, hn, hov, fun cl H5 s5 hcl ecl => ?_⟩
      rw [pw_split (by omega)] at hp
      -- while
      refine ⟨fun m σ H' => ∃ (j a : Nat), m = M.L.length - j ∧ j ≤ M.L.length ∧ ((M.L.drop j).flatMap fun c => (pw M n (b ++ [c])).map fun w => c :: w)[a]? = some r ∧ H5 = H' ∧ σ = [some (.ref va), some (.int ((n : Nat) : Int)), some (.int ((i : Nat) : Int)), some (.int ((M.cnt n 0 : Nat) : Int)), some (.ref x), some (.ref lf), some (.int ((a : Nat) : Int)), some (.int (0 + ((t : Nat) : Int))), some (.ref cl), some (.int ((j : Nat) : Int))],
        ⟨_, 0, ah, rfl, Nat.zero_le _, by simpa using hp, rfl, rfl⟩, ?_⟩
      rintro m σ H' ⟨j, a, rfl, hj, ha, rfl, rfl⟩
      have hjl : j < M.L.length := by
        by_cases e : j < M.L.length
        · exact e
        · rw [List.drop_eq_nil_of_le (by omega)] at ha; simp at ha
      have hc : M.L[j]? = some (M.L[j]'hjl) := List.getElem?_eq_getElem hjl
      have hcL : M.L[j]'hjl ∈ M.L := List.getElem_mem hjl
      have hdj : M.L.drop j = M.L[j]'hjl :: M.L.drop (j + 1) := List.drop_eq_getElem_cons hjl
      generalize M.L[j]'hjl = c at hc hcL hdj
      rw [hdj, List.flatMap_cons] at ha
      have hcl5 : (vI (M.L.map fun c => pcq M 0 n (b ++ [c])))[j]? = some (.int ((pcq M 0 n (b ++ [c]) : Nat) : Int)) := by unfold vI; rw [List.getElem?_map, List.getElem?_map, hc]; rfl
      have hbl : ((pw M n (b ++ [c])).map fun w => c :: w).length = pcq M 0 n (b ++ [c]) := by rw [List.length_map, pw_len]
      refine ⟨_, rfl, _, rfl, _, rfl, cl, _, _, _, rfl, rfl, SqL.of ecl, atI_nat hcl5, _, _, rfl, rfl, _, rfl, ite2D (fun hge => ?_) (fun hge => ?_)⟩
      · have hge' : pcq M 0 n (b ++ [c]) ≤ a := by have : ((pcq M 0 n (b ++ [c]) : Nat) : Int) ≤ ((a : Nat) : Int) := hge; omega
        rw [List.getElem?_append_right (by rw [hbl]; exact hge'), hbl] at ha
        refine ⟨fun σ' H'' => H5 = H'' ∧ σ' = [some (.ref va), some (.int ((n : Nat) : Int)), some (.int ((i : Nat) : Int)), some (.int ((M.cnt n 0 : Nat) : Int)), some (.ref x), some (.ref lf), some (.int (((a - pcq M 0 n (b ++ [c]) : Nat)) : Int)), some (.int (0 + ((t : Nat) : Int))), some (.ref cl), some (.int ((j + 1 : Nat) : Int))],
          fun σ' H'' ⟨q1, q2⟩ => ⟨M.L.length - (j + 1), by omega, j + 1, a - pcq M 0 n (b ++ [c]), rfl, by omega, ha, q1, q2⟩, ?_⟩
        refine ⟨_, rfl, _, rfl, _, rfl, cl, _, _, _, rfl, rfl, SqL.of ecl, atI_nat hcl5, _, _, rfl, rfl, ?_⟩
        refine ⟨_, rfl, _, _, rfl, rfl, rfl, ?_⟩
        show [_, _, _, _, _, _, some (V.int (((a : Nat) : Int) - ((pcq M 0 n (b ++ [c]) : Nat) : Int))), _, _, _] = _
        rw [← Int.natCast_sub hge']; rfl
      · have hlt : a < pcq M 0 n (b ++ [c]) := by have : ¬ ((pcq M 0 n (b ++ [c]) : Nat) : Int) ≤ ((a : Nat) : Int) := hge; omega
        rw [List.getElem?_append_left (by rw [hbl]; exact hlt), List.getElem?_map] at ha
        cases hw : (pw M n (b ++ [c]))[a]? with
        | none => rw [hw] at ha; cases ha
        | some r' =>
          rw [hw] at ha
          have er' : c :: r' = r := Option.some.inj ha
          have ec : y[t]'hty = c := by
            have h1 : y[t]? = some c := by
              rw [← List.head?_drop, ← hdr, ← er']; rfl
            exact (List.getElem?_eq_some_iff.mp h1).2
          rw [ec] at htk
          have hb5 := hb4.same s5
          obtain ⟨dx5, pi5, pr5, hx5⟩ := hb5.ins
          -- take
          refine ⟨_, rfl, x, dx5, _, rfl, hx5, rfl, _, rfl, msk H4 [x, pl, pW], x, pl, pW, .ref va, M, n, b, j, c, rfl, hb5, ok, by omega, hn, hov, hc, fun H6 hb6 => ?_⟩
          have hlf6 : H6 lf = _ := hb6.kp _ _ (by rw [msk_at nlf]; exact hlf4)
          have s6 : Same H H6 := (msk_free hS0).trans ((msk_same s4).trans hb6.kp)
          refine ⟨_, rfl, .inl ⟨rfl, _, SqL.of hlf6⟩, _, rfl, va, _, _, _, rfl, rfl, SqT.of (s6 _ _ h1), rfl, _, rfl, M.letters, _, _, rfl, rfl, hzL, atI_nat hc, lf, _, _, rfl, rfl, hlf6, sz_lt (by rw [List.length_map]; omega), ?_⟩
          have hlf0 : H lf = none := (s1.trans s2).free hlf
          have s7 : Same H (upd H6 lf (.lst (b.map (fun c => V.str ⟨#[c]⟩) ++ [V.str ⟨#[c]⟩]))) := Same.put s6 hlf0
          refine ⟨a, r', _, _, _, rfl, s7, by rw [htk, List.append_assoc]; show b ++ (c :: r') = y; rw [er']; exact er, by rw [htk]; exact hw, ?_, by rw [upd_same, htk, List.map_append]; rfl⟩
          rw [htk]
          exact hb6.put ok nlf hlf6 (fun v hv => by obtain ⟨c, _, rfl⟩ := List.mem_map.mp hv; exact ⟨_, rfl⟩) (hM.same ((msk_free hS0).trans (msk_same s7)))
    · rintro σ H4 ⟨ah, r, o7, o8, o9, rfl, s4, er, hp, hb4, hlf4⟩
      rw [tn] at er hp hb4 hlf4
      have hyt : y.take n = y := List.take_of_length_le (by omega)
      rw [hyt] at hlf4
      have hsz : ((y.map fun c => (⟨#[c]⟩ : Str)).map (·.length)).sum = y.length := by
        rw [List.map_map]
        have e : ((fun s : Str => s.length) ∘ fun c => (⟨#[c]⟩ : Str)) = fun _ => 1 := rfl
        rw [e, List.map_const', List.sum_replicate_nat, Nat.mul_one]
      refine ⟨⟨_, rfl⟩, _, rfl, _, lf, y.map (fun c => (⟨#[c]⟩ : Str)), rfl, rfl, .inl (SqL.of (by rw [List.map_map]; exact hlf4)), ?_, ?_⟩
      · rw [hsz, List.length_map]
        have e0 : (Str.ofString "").length = 0 := rfl
        rw [e0]; omega
      · show (fun x H' => Q x H') (V.str (Txt.join "" (y.map fun c => (⟨#[c]⟩ : Str)))) H4
        rw [join_mk]; exact kk H4 s4
/-! ### number_of -/
def spNumberOf : Sp := fun vs H Q _ => ∃ (v : V) (M : Mach) (y : Str), vs = [v, .str y] ∧ MAt H v M ∧ M.Ok ∧ Over M.letters y ∧ y.cps.size ≤ 60 ∧ M.has y.cps.toList = true ∧ ∀ H', Same H H' → Q (.int ((num M y.cps.size [] y.cps.toList : Nat) : Int)) H'
abbrev NNo : List Str := ["machine", "word", "beginning", "number", "letter", "at"]
theorem scNo : FnScope NNo ["machine", "word"] (defScope (top 34)) := ⟨rfl, rfl, rfl, by decide +kernel, rfl, by decide +kernel, by decide +kernel⟩
set_option maxHeartbeats 4000000 in
theorem ok_numberof {f fHas fIB fCo fTa C : Addr} {fd fdHas fdIB fdCo fdTa : FuncData} (D : Def K mg "number_of" (top 34) ["machine", "word"] f fd) (T : BI mg) (Tsum : mg "sum" = none)
    (DHas : Def K mg "has" (top 28) ["machine", "word"] fHas fdHas) (GHas : FnOk P w K mg base CX0 7 fHas fdHas ["machine", "word"] spHas)
    (kB : Kl K mg "Beginning" C) (MIB : Mk K C fIB) (GIB : FnOk P w K mg base CX0 2 fIB fdIB ["self", "machine", "long"] (spInitB C)) (bIB : Binds K fdIB ["self", "machine", "long"] [])
    (mCo : Meth K C "counts" fCo) (GCo : FnOk P w K mg base CX0 3 fCo fdCo ["self"] (spCountsB C)) (bCo : Binds K fdCo ["self"] [])
    (mTa : Meth K C "take" fTa) (GTa : FnOk P w K mg base CX0 3 fTa fdTa ["self", "place"] (spTakeB C)) (bTa : Binds K fdTa ["self", "place"] []) : FnOk P w K mg base CX0 8 f fd ["machine", "word"] spNumberOf := by
  refine D.F.ok scNo (fun vs H Q E h => ?_) (fun cdv A outer s H vs Q E hr h => ?_)
  · obtain ⟨v, M, y, rfl, _⟩ := h; rfl
  · obtain ⟨v, M, y, rfl, hM, ok, ov, hyz, hhas, kk⟩ := h
    refine ⟨_, (pss_cons (ps_if (pt_not (pt_val (pe_call GHas (hr.mono (by decide)) (by rfl) DHas.m DHas.F.kp DHas.b .nil pass0 (pa_cons (pv 0) (pa_cons (pv 1) pa_nil))))) pss_never pss_nil)
      (pss_cons (ps_set (i := 2) scNo.nd rfl (Or.inl rfl) (pe_make MIB GIB (hr.mono (by decide)) (by rfl) kB.m bIB .nil pass0 (pa_cons (pv 0) (pa_cons (pe_callB call_len_str (by rfl) T.len PySem.boot_len (pa_cons (pv 1) pa_nil)) pa_nil))))
      (pss_cons (ps_set (i := 3) scNo.nd rfl (Or.inl rfl) pe_int)
      (pss_cons (ps_for PassesOwn.never rfl (pi_str (pv 1)) (pg_name (i := 4) scNo.nd rfl (Or.inl rfl))
        (pss_cons (ps_set (i := 5) scNo.nd rfl (Or.inl rfl) (pe_sindex (pe_ix ix_tup (pv 0) pe_int (fun _ _ => rfl)) (pv 4)))
      (pss_cons (ps_aug (i := 3) scNo.nd rfl (.inl rfl) (pe_callB (cr_sum rfl) (by rfl) Tsum (by decide +kernel) (pa_cons (pe_slice sl_list (pe_meth0 (pv 2) kB.cl mCo GCo (hr.mono (by decide)) bCo .nil pass0) po_none (po_some (pv 5))) pa_nil)) ip_add)
      (pss_one (ps_expr (pe_meth (pv 2) kB.cl mTa GTa (hr.mono (by decide)) bTa .nil pass0 (pa_cons (pv 5) pa_nil)))))))
      (pss_one (ps_ret (pv 3))))))), ?_⟩
    obtain ⟨va, pm, pe, pq, rs, qs, rfl, h1, h2, h3, h4, h5, h6⟩ := id hM
    have hLk : M.L.length = M.letters.cps.size := Array.length_toList
    have hk3 : M.letters.cps.size ≤ 3 := ok.let_.k3
    have hyl : y.cps.toList.length = y.cps.size := Array.length_toList
    have hzy : y.length ≤ sizeLine := sz_le (by show y.cps.size ≤ _; omega)
    -- not has
    refine ⟨_, rfl, _, rfl, .ref va, M, y, rfl, hM, ok, ov, hyz, fun H1 s1 => ?_⟩
    refine ⟨_, rfl, ?_⟩
    rw [hhas]
    refine iteF ?_
    -- Beginning(machine, len(word))
    refine ⟨_, rfl, _, rfl, y, rfl, hzy, fun x dx hx hdx nex => ⟨x, dx, .ref va, M, y.cps.size, H1, rfl, upd_same, (fun b o e => by rw [upd_ne (ne_of_none e hx), upd_ne (ne_of_none e hdx)]; exact e), hx, hM.same s1, ok, hyz, fun pl pW H2 hb => ⟨rfl, ?_⟩⟩⟩
    have s2 := hb.kp
    have hS0 : ∀ a ∈ [x, pl, pW], H a = none := by
      obtain ⟨dx', pi, pr, rws, wrs, a1, a2, a3, a4, _⟩ := id hb
      intro a ha
      simp at ha
      rcases ha with rfl | rfl | rfl
      · exact s1.free a2
      · exact s1.free a3
      · exact s1.free a4
    have s02 := s1.trans s2
    generalize hnn : y.cps.size = n at hyz hyl kk hb ⊢
    refine ⟨_, rfl, y, rfl, for_it (J := Its y) (n := y.cps.size) (fun t σ H' => ∃ (ac : Nat) (o4 o5 : Option V), σ = [some (.ref va), some (.str y), some (.ref x), some (.int ((ac : Nat) : Int)), o4, o5] ∧
      Same H H' ∧ ac + num M n (y.cps.toList.take t) (y.cps.toList.drop t) = num M n [] y.cps.toList ∧ Beg (msk H' [x, pl, pW]) C (.ref va) M n (y.cps.toList.take t) x pl pW H')
      ⟨0, none, none, rfl, s02, by simp, by simpa using hb.up⟩ (fun i σ H' hi _ => hi) (fun σ H' _ => Nat.le_refl _) ?_ ?_⟩
    · rintro t v σ H4 H4' ht ⟨ac, o4, o5, rfl, s4, ea, hb4⟩ ⟨rfl, c, hc, rfl⟩
      have hcl : y.cps.toList[t]? = some c := by rw [Array.getElem?_toList]; exact hc
      have hcm : c ∈ M.L := ov c (List.mem_of_getElem? hcl)
      have htt := (List.getElem?_eq_some_iff.mp hcl)
      obtain ⟨htt, ect⟩ := htt
      have htl : (y.cps.toList.take t).length = t := by rw [List.length_take]; omega
      have hov : ∀ c ∈ y.cps.toList.take t, c ∈ M.L := fun c hc => ov c (List.mem_of_mem_take hc)
      have htk : y.cps.toList.take (t + 1) = y.cps.toList.take t ++ [c] := by rw [List.take_succ_eq_append_getElem htt, ect]
      have hdr : y.cps.toList.drop t = c :: y.cps.toList.drop (t + 1) := by rw [List.drop_eq_getElem_cons htt, ect]
      rw [hdr] at ea
      generalize hbt : y.cps.toList.take t = b at htl hov htk ea hb4 ⊢
      have hcx : M.L[M.ix c]? = some c := ix_at hcm
      obtain ⟨dx4, pi4, pr4, hx4⟩ := hb4.ins
      -- at
      refine ⟨_, rfl, va, _, _, _, rfl, rfl, SqT.of (s4 _ _ h1), rfl, ⟨_, rfl⟩, _, rfl, M.letters, c, rfl, rfl, hcm, ?_⟩
      -- number += sum(counts()[:at])
      refine ⟨_, rfl, _, rfl, x, dx4, _, rfl, hx4, rfl, ?_⟩
      unfold tNil
      refine ⟨msk H4' [x, pl, pW], x, pl, pW, .ref va, M, n, b, rfl, hb4, ok, by omega, hyz, hov, fun cl H5 s5 hcl ecl => ?_⟩
      refine ⟨_, rfl, _, rfl, cl, _, rfl, SqL.of ecl, fun p hp => ?_⟩
      have eix : M.letters.cps.toList.idxOf c = M.ix c := rfl
      rw [eix]
      have s6 : Same H5 (upd H5 p (.lst (cutV (vI (M.L.map fun c => pcq M 0 n (b ++ [c]))) none (some ((M.ix c : Nat) : Int))))) := Same.upd hp
      have e6 : (upd H5 p (.lst (cutV (vI (M.L.map fun c => pcq M 0 n (b ++ [c]))) none (some ((M.ix c : Nat) : Int))))) p = some (.lst (cutV (vI (M.L.map fun c => pcq M 0 n (b ++ [c]))) none (some ((M.ix c : Nat) : Int)))) := upd_same
      generalize upd H5 p (.lst (cutV (vI (M.L.map fun c => pcq M 0 n (b ++ [c]))) none (some ((M.ix c : Nat) : Int)))) = H6 at s6 e6 ⊢
      rw [cut_natI] at e6
      refine ⟨p, _, rfl, SqL.of e6, _, _, rfl, rfl, ?_⟩
      rw [sum_natI]
      dsimp only
      rw [← Int.natCast_add, ← List.map_take]
      -- take
      have hb6 := (hb4.same s5).same s6
      obtain ⟨dx6, pi6, pr6, hx6⟩ := hb6.ins
      refine ⟨_, rfl, x, dx6, _, rfl, hx6, rfl, _, rfl, msk H4' [x, pl, pW], x, pl, pW, .ref va, M, n, b, M.ix c, c, rfl, hb6, ok, by omega, hyz, hov, hcx, fun H7 hb7 => ?_⟩
      have s7 : Same H H7 := (msk_free hS0).trans ((msk_same s4).trans hb7.kp)
      refine ⟨ac + ((M.L.take (M.ix c)).map fun d => pcq M 0 n (b ++ [d])).sum, _, _, rfl, s7, ?_, ?_⟩
      · rw [htk, Nat.add_assoc]; exact ea
      · rw [htk]; exact hb7.up
    · rintro σ H4 ⟨ac, o4, o5, rfl, s4, ea, hb4⟩
      have e1 : y.cps.toList.take y.cps.size = y.cps.toList := List.take_of_length_le (by simp)
      have e2 : y.cps.toList.drop y.cps.size = [] := List.drop_eq_nil_of_le (by simp)
      rw [e1, e2] at ea
      have e3 : num M n y.cps.toList [] = 0 := rfl
      rw [e3, Nat.add_zero] at ea
      rw [← ea] at kk
      exact ⟨_, rfl, kk H4 s4⟩
end
end Be

namespace Be
open PySem L2
/-! ### how many words have a beginning, pair by pair -/
theorem pcq_split {M : Mach} {q n : Nat} {b : List Nat} (h : b.length < n) : pcq M q n b = (M.L.map fun c => pcq M q n (b ++ [c])).sum := by
  unfold pcq
  obtain ⟨t, ht⟩ : ∃ t, n - b.length = t + 1 := ⟨n - b.length - 1, by omega⟩
  rw [ht, textsL_cons, List.countP_flatMap]
  congr 1
  refine List.map_congr_left fun c _ => ?_
  have e : n - (b ++ [c]).length = t := by rw [List.length_append]; show n - (b.length + 1) = t; omega
  show ((textsL M.L t).map fun w => c :: w).countP _ = _
  rw [List.countP_map, e]
  congr 1
  funext w
  show M.hasAt q (b ++ c :: w) = M.hasAt q ((b ++ [c]) ++ w)
  rw [List.append_assoc]; rfl
theorem map_ix {M : Mach} (h : LetOk M.letters) : M.L.map M.ix = List.range M.k := by
  apply List.ext_getElem?
  intro i
  have hl : M.L.length = M.k := Array.length_toList
  by_cases hi : i < M.L.length
  · rw [List.getElem?_map, List.getElem?_eq_getElem hi, List.getElem?_range (by omega), Option.map_some]
    exact congrArg some ((LetOk.nodup h).idxOf_getElem i hi)
  · rw [List.getElem?_eq_none (by rw [List.length_map]; omega), List.getElem?_eq_none (by rw [List.length_range]; omega)]
theorem sum_ix {M : Mach} (h : LetOk M.letters) (F : Nat → Nat) : ((List.range M.k).map F).sum = (M.L.map fun c => F (M.ix c)).sum := by
  rw [← map_ix h, List.map_map]; rfl
def cw (M : Mach) (bg : List Nat) : Nat → Nat → Nat → Nat
  | 0, _, q => if M.fin q = true then 1 else 0
  | 1, i, q => ((chs M bg i).map fun f => if (M.mids.getD q []).getD f false = true then 1 else 0).sum
  | n + 2, i, q => ((chs M bg i).map fun f => ((chs M bg (i + n + 1)).map fun g => cw M bg n (i + 1) (M.go1 q (f * M.k + g))).sum).sum
theorem chs_in {M : Mach} {bg : List Nat} {i : Nat} (h : i < bg.length) : chs M bg i = [M.ix (bg.getD i 0)] := by unfold chs; rw [if_pos h]
theorem chs_out {M : Mach} {bg : List Nat} {i : Nat} (h : ¬ i < bg.length) : chs M bg i = List.range M.k := by unfold chs; rw [if_neg h]
theorem drop_getD {bg : List Nat} {i : Nat} (h : i < bg.length) : bg.drop i = bg.getD i 0 :: bg.drop (i + 1) := by
  rw [List.drop_eq_getElem_cons h, List.getD_eq_getElem?_getD, List.getElem?_eq_getElem h, Option.getD_some]
theorem sum_one (x : Nat) : [x].sum = x := by simp
theorem cw_is {M : Mach} (hL : LetOk M.letters) {bg : List Nat} : ∀ n i q, cw M bg n i q = pcq M q n ((bg.drop i).take n)
  | 0, i, q => by
    rw [cw, List.take_zero, pcq_full (n := 0) (b := []) rfl, hasAt_nil]
  | 1, i, q => by
    rw [cw]
    by_cases hi : i < bg.length
    · rw [chs_in hi, drop_getD hi, List.take_succ_cons, List.take_zero, pcq_full (n := 1) (b := [bg.getD i 0]) rfl, hasAt_one]
      rw [List.map_cons, List.map_nil, sum_one]
      unfold Mach.mid; rfl
    · rw [chs_out hi, List.drop_eq_nil_of_le (by omega), List.take_nil, pcq_split (by simp), sum_ix hL]
      congr 1
      refine List.map_congr_left fun c _ => ?_
      rw [List.nil_append, pcq_full (n := 1) (b := [c]) rfl, hasAt_one]
      unfold Mach.mid; rfl
  | n + 2, i, q => by
    rw [cw]
    by_cases hi : i < bg.length
    · rw [chs_in hi, drop_getD hi, List.take_succ_cons, List.map_cons, List.map_nil, sum_one]
      by_cases hf : i + n + 1 < bg.length
      · rw [chs_in hf, List.map_cons, List.map_nil, sum_one, cw_is hL n]
        have hd : n < (bg.drop (i + 1)).length := by rw [List.length_drop]; omega
        have e : (bg.drop (i + 1)).take (n + 1) = (bg.drop (i + 1)).take n ++ [bg.getD (i + n + 1) 0] := by
          rw [List.take_succ_eq_append_getElem hd, List.getElem_drop, List.getD_eq_getElem?_getD, List.getElem?_eq_getElem hf, Option.getD_some]
          congr 3
          omega
        rw [e, pcq_full (by rw [List.length_take]; omega), pcq_full (by simp; omega), hasAt_pair, stp_go1]
      · have e : (bg.drop (i + 1)).take (n + 1) = bg.drop (i + 1) := List.take_of_length_le (by rw [List.length_drop]; omega)
        rw [chs_out hf, e, pcq_pair (by rw [List.length_drop]; omega), sum_ix hL]
        congr 1
        refine List.map_congr_left fun d _ => ?_
        have e2 : (bg.drop (i + 1)).take n = bg.drop (i + 1) := List.take_of_length_le (by rw [List.length_drop]; omega)
        rw [cw_is hL n, e2, stp_go1]
    · rw [chs_out hi, List.drop_eq_nil_of_le (by omega), List.take_nil, pcq_split (by simp), sum_ix hL]
      congr 1
      refine List.map_congr_left fun c _ => ?_
      rw [List.nil_append, chs_out (by omega), pcq_pair (by simp), sum_ix hL]
      congr 1
      refine List.map_congr_left fun d _ => ?_
      rw [cw_is hL n, List.drop_eq_nil_of_le (by omega), List.take_nil, stp_go1]
theorem cw_pcq {M : Mach} (hL : LetOk M.letters) {bg : List Nat} {n : Nat} (h : bg.length ≤ n) : cw M bg n 0 0 = pcq M 0 n bg := by
  rw [cw_is hL, List.drop_zero, List.take_of_length_le h]
end Be

/-! Keys that are tuples of some values and, last, a tuple of values; keys by an injective map. -/
namespace PySem
open Sem (wp)
abbrev NK (K1 K2 : Type) (m : Nat) := {x : List K1 × List K2 // x.1.length = m}
section
variable {prog : Program} {w : World} {K1 K2 : Type} [DecidableEq K1] [DecidableEq K2] (k1 : KeyKind prog w K1) (k2 : KeyKind prog w K2) (m : Nat)
def IsNest (h : Heap) (x : NK K1 K2 m) (a : Addr) : Prop := ∃ o b n vs, h.get? a = some o ∧ o.cls = .type "tuple" ∧ o.data = .seq (vs ++ [Value.ref b]).toArray n ∧ ItemsAre k1 x.1.1 vs ∧ IsTupleKey k2 h x.1.2 b
variable {k1 k2 m}
theorem IsNest.typeIs {s : Shared} {k : NK K1 K2 m} {a : Addr} (x : IsNest k1 k2 m s.heap k a) : s.TypeIs (.ref a) "tuple" := let ⟨o, _, _, _, ho, hc, _⟩ := x; ⟨o, ho, hc⟩
theorem IsNest.inj {h : Heap} {a : Addr} {x y : NK K1 K2 m} (hx : IsNest k1 k2 m h x a) (hy : IsNest k1 k2 m h y a) : x = y := by
  obtain ⟨o, b, n, v, ho, _, hd, hi, ht⟩ := hx
  obtain ⟨o', b', n', v', ho', _, hd', hi', ht'⟩ := hy
  obtain rfl : o = o' := Option.some.inj (ho.symm.trans ho')
  rw [hd] at hd'
  injection hd' with h1 _
  have e : v ++ [Value.ref b] = v' ++ [Value.ref b'] := by simpa using h1
  obtain ⟨e1, e2⟩ := List.append_inj' e rfl
  injection e2 with e2 _
  injection e2 with e2
  subst e1; subst e2
  obtain ⟨⟨x1, x2⟩, hx⟩ := x
  obtain ⟨⟨y1, y2⟩, hy⟩ := y
  have e1 : x1 = y1 := hi.inj hi'
  have e2 : x2 = y2 := ht.inj ht'
  subst e1; subst e2; rfl
theorem IsNest.keeps {h h' : Heap} {k : NK K1 K2 m} {a d : Addr} {o : Obj} {es ep} (x : IsNest k1 k2 m h k a) (ho : h.get? d = some o) (hd : o.data = .dict es ep) (hs : Heap.SameBut d h h') : IsNest k1 k2 m h' k a := by
  obtain ⟨o', b, n, v, ho', hc, hd', hi, ht⟩ := x
  have hne : a ≠ d := by
    rintro rfl
    obtain rfl : o' = o := Option.some.inj (ho'.symm.trans ho)
    rw [hd] at hd'; exact nomatch hd'
  exact ⟨o', b, n, v, (hs.2 a hne).trans ho', hc, hd', hi, ht.keeps ho hd hs⟩
variable {A : Around} {E : Value → Shared → Prop} {s : Shared}
end
def mapKind {prog : Program} {w : World} {K K' : Type} [DecidableEq K] [DecidableEq K'] (k : HeapKind prog w K) (f : K' → K) (hf : ∀ x y, f x = f y → x = y) : HeapKind prog w K' where
  is := fun h x a => k.is h (f x) a
  hash := fun x => k.hash (f x)
  draws := fun x => k.draws (f x)
  room := k.room
  inj := fun hx hy => hf _ _ (k.inj hx hy)
  keeps := fun x ho hd hs => k.keeps x ho hd hs
  pyHash := fun hu hk h => k.pyHash hu hk h
  eqBool := fun {A E s x y a b Q} hu hx hy h => k.eqBool hu hx hy (by
    have e : decide (f x = f y) = decide (x = y) := by
      apply decide_eq_decide.mpr
      exact ⟨hf x y, fun z => by rw [z]⟩
    rw [e]; exact h)
  quiet := fun hk h => k.quiet hk h
end PySem

/-! A written dict of one entry whose key is a tuple. -/
namespace L2
open PySem PySem.Spec PyProof.Rows
section
variable {X : Cx}
end
end L2

/-! A dict whose keys are of any kind of tuples: {}, {k: v}, k in d, d[k], d[k] = v, len. -/
namespace L2
open PySem PySem.Spec PyProof.Rows
structure KRel (P : Program) (w : World) (K : Type) [DecidableEq K] where
  hk : HeapKind P w K
  at_ : Hp → K → Addr → Prop
  by_ : ∀ {H : Hp} {h : Heap} {k : K} {b : Addr}, HOk P w H h → at_ H k b → hk.is h k b
  keep : ∀ {H H' : Hp} {k : K} {b : Addr}, (∀ a xs, H a = some (.tup xs) → H' a = some (.tup xs)) → at_ H k b → at_ H' k b
  room : ∀ {A : Around}, A.units + 2 < cLine → hk.room A.in1
  room0 : ∀ {A : Around}, A.units + 2 < cLine → hk.room A
abbrev GEnt (K : Type) := K × Addr × V
abbrev GRel {K : Type} : List (GEnt K) → List (K × Addr × Value) → Prop := Paired fun p q => p.1 = q.1 ∧ p.2.1 = q.2.1 ∧ RelV p.2.2 q.2.2
section
variable {P : Program} {w : World} {K : Type} [DecidableEq K] (R : KRel P w K)
def GD (a : Addr) (xs : List (GEnt K)) : HO := .ext fun h => xs.length ≤ sizeLine ∧ (a == sysModules) = false ∧ ∃ ys, GRel xs ys ∧
  ∃ o es ep, h.get? a = some o ∧ o.ExactDict ∧ o.data = .dict es ep ∧ es.toList = ys.map (entryOfKey R.hk) ∧ (ys.map (·.1)).Nodup
def GKeys (H : Hp) (xs : List (GEnt K)) : Prop := ∀ x ∈ xs, R.at_ H x.1 x.2.1
variable {R}
theorem gd_new {a : Addr} {xs : List (GEnt K)} {ys : List (K × Addr × Value)} {H : Hp} {h : Heap} (z : xs.length ≤ sizeLine) (hd : (a == sysModules) = false) (r : GRel xs ys) (dd : h.DictOfH R.hk a ys) : ObjOk P w H h a (GD R a xs) := by
  obtain ⟨o, es, ep, ho, hc, hdt, he, his, hn⟩ := dd
  refine ⟨⟨z, hd, ys, r, o, es, ep, ho, hc, hdt, he, hn⟩, ⟨o, ho⟩, ?_⟩
  rintro h1 h2 ⟨z, hd, ys, r, o, es, ep, ho, q⟩ k
  exact ⟨z, hd, ys, r, o, es, ep, k o ho, q⟩
theorem gd_of {H : Hp} {h : Heap} {a : Addr} {xs : List (GEnt K)} (ok : HOk P w H h) (e : H a = some (GD R a xs)) (ks : GKeys R H xs) :
    xs.length ≤ sizeLine ∧ (a == sysModules) = false ∧ ∃ ys, GRel xs ys ∧ h.DictOfH R.hk a ys := by
  obtain ⟨⟨z, hd, ys, r, o, es, ep, ho, hc, hdt, he, hn⟩, _⟩ := (show ObjOk P w H h a (GD R a xs) from ok a _ e)
  refine ⟨z, hd, ys, r, o, es, ep, ho, hc, hdt, he, ?_, hn⟩
  have all : ∀ {l : List (GEnt K)} {m : List (K × Addr × Value)}, GRel l m → (∀ x ∈ l, R.at_ H x.1 x.2.1) → ∀ y ∈ m, R.hk.is h y.1 y.2.1 := by
    intro l m r
    induction r with
    | nil => intro _ y hy; cases hy
    | cons q t ih =>
      intro hk y hy
      rcases List.mem_cons.mp hy with e | hy
      · subst e
        have := R.by_ ok (hk _ List.mem_cons_self)
        rw [q.1, q.2.1] at this
        exact this
      · exact ih (fun x hx => hk x (List.mem_cons_of_mem _ hx)) y hy
  exact all r ks
def gAt (xs : List (GEnt K)) (k : K) : Option V := (xs.find? fun x => decide (x.1 = k)).map (·.2.2)
theorem gAt_rel {xs : List (GEnt K)} {ys : List (K × Addr × Value)} (r : GRel xs ys) (k : K) : RelO (gAt xs k) ((atKey ys k).map (·.2)) := by
  induction r with
  | nil => exact True.intro
  | cons q t ih =>
    unfold gAt atKey at *
    rw [List.find?_cons, List.find?_cons, ← q.1]
    cases decide (_ = k) with
    | true => exact q.2.2
    | false => exact ih
def gPut (xs : List (GEnt K)) (k : K) (b : Addr) (v : V) : List (GEnt K) := if (gAt xs k).isSome = true then xs.map (fun x => if x.1 = k then (x.1, x.2.1, v) else x) else xs ++ [(k, b, v)]
theorem gPut_len (xs : List (GEnt K)) (k : K) (b : Addr) (v : V) : (gPut xs k b v).length ≤ xs.length + 1 := by
  unfold gPut; split
  · rw [List.length_map]; omega
  · rw [List.length_append]; exact Nat.le_refl _
theorem gPut_rel {xs : List (GEnt K)} {ys : List (K × Addr × Value)} (r : GRel xs ys) (k : K) (b : Addr) {v : V} {u : Value} (rv : RelV v u) : GRel (gPut xs k b v) (storedH ys k b u) := by
  have e : (gAt xs k).isSome = (atKey ys k).isSome := by
    have := (gAt_rel r k).isSome_eq
    rwa [Option.isSome_map] at this
  have both : ∀ {l : List (GEnt K)} {m : List (K × Addr × Value)}, GRel l m → GRel (l.map (fun x => if x.1 = k then (x.1, x.2.1, v) else x)) (m.map (putAt k u)) := by
    intro l m r
    induction r with
    | nil => exact .nil
    | @cons p q l m h t ih =>
      refine .cons ?_ ih
      obtain ⟨p1, p2, p3⟩ := p
      obtain ⟨q1, q2, q3⟩ := q
      obtain ⟨h1, h2, h3⟩ := h
      have h1' : p1 = q1 := h1
      have h2' : p2 = q2 := h2
      subst h1' h2'
      show (if p1 = k then (p1, p2, v) else (p1, p2, p3)).1 = (if p1 = k then (p1, p2, u) else (p1, p2, q3)).1 ∧ (if p1 = k then (p1, p2, v) else (p1, p2, p3)).2.1 = (if p1 = k then (p1, p2, u) else (p1, p2, q3)).2.1 ∧ RelV (if p1 = k then (p1, p2, v) else (p1, p2, p3)).2.2 (if p1 = k then (p1, p2, u) else (p1, p2, q3)).2.2
      by_cases z : p1 = k
      · rw [if_pos z, if_pos z]; exact ⟨rfl, rfl, rv⟩
      · rw [if_neg z, if_neg z]; exact ⟨rfl, rfl, h3⟩
  unfold gPut storedH
  rw [e]
  split
  · exact both r
  · exact pairedApp r (.cons ⟨rfl, rfl, rv⟩ .nil)
theorem GKeys.put {H : Hp} {xs : List (GEnt K)} {k : K} {b : Addr} {v : V} (h : GKeys R H xs) (hk : R.at_ H k b) : GKeys R H (gPut xs k b v) := fun x hx => by
  unfold gPut at hx
  split at hx
  · obtain ⟨y, hy, e⟩ := List.mem_map.mp hx
    by_cases z : y.1 = k
    · rw [if_pos z] at e; subst e; exact h y hy
    · rw [if_neg z] at e; subst e; exact h y hy
  · rcases List.mem_append.mp hx with q | q
    · exact h x q
    · rw [List.mem_singleton.mp q]; exact hk
theorem GKeys.keep {H H' : Hp} {xs : List (GEnt K)} (kp : ∀ a ys, H a = some (.tup ys) → H' a = some (.tup ys)) (h : GKeys R H xs) : GKeys R H' xs := fun x hx => R.keep kp (h x hx)
theorem gd_tup {H : Hp} {a b : Addr} {xs : List (GEnt K)} {ys : List V} {o : HO} (h : H a = some (GD R a xs)) (hb : H b = some (.tup ys)) : (upd H a o) b = some (.tup ys) := by
  rw [upd_ne (fun z => by rw [z, h] at hb; cases hb)]; exact hb
end
section
variable {X : Cx} {K : Type} [DecidableEq K] {i o : Expr} {ty td tv : TE} {pos pos' : Pos} {value : Expr}
def tGNew {P : Program} {w : World} (R : KRel P w K) : TE := fun _ H Q => ∀ p, H p = none → Q (.ref p) (upd H p (GD R p []))
theorem pe_gnew0 (R : KRel X.prog X.w K) {pos : Pos} : PE X (.Dict [] [] pos) (tGNew R) := fun pins s σ H Q I h =>
  wpAny_Dict_empty ⟨.ref s.heap.objs.size, _, I.laid (a := s.heap.objs.size) (o := GD R s.heap.objs.size []) (t' := s.toks) (fun _ _ q => Heap.get?_push_of_some _ q) (Nat.le_refl _)
    (gd_new (ys := []) (Nat.zero_le _) (beq_eq_false_iff_ne.mpr (Ne.symm (Nat.ne_of_lt I.big))) .nil (Heap.DictOfH.new s.heap)), rfl, h _ (I.hok.fresh (Nat.le_refl _))⟩
def tGNotIn {P : Program} {w : World} (R : KRel P w K) (ty td : TE) : TE := fun σ H Q => ty σ H fun y H1 => td σ H1 fun x H2 => ∃ a es k b, x = .ref a ∧ y = .ref b ∧ H2 a = some (GD R a es) ∧ GKeys R H2 es ∧ R.at_ H2 k b ∧ Q (.bl (!(gAt es k).isSome)) H2
theorem pc_gnotin0 (R : KRel X.prog X.w K) (hu : X.A.units + 2 < cLine) (hi : PE X i ty) (ho : PE X o td) : PC X .NotIn i o (tGNotIn R ty td) := by
  intro pins s σ H Q I h
  refine thn (hi pins s σ H _ I h) fun iv s1 ⟨y, H1, I1, ry, q1⟩ => thn (ho pins s1 σ H1 _ I1 q1) fun u s2 ⟨x, H2, I2, rx, a, es, k, b, ex, ey, ha, hks, hk, q2⟩ => ?_
  subst ex ey
  obtain rfl : u = Value.ref a := rx
  obtain rfl : iv = Value.ref b := ry
  obtain ⟨z, hd, ys, rel, dd⟩ := gd_of I2.hok ha hks
  refine wpAny_notIn_heap (R.room hu) (R.by_ I2.hok hk) hd dd ?_
  have q := (gAt_rel rel k).isSome_eq
  rw [Option.isSome_map] at q
  rw [← q]
  exact ⟨.bl (!(gAt es k).isSome), H2, I2.tok _, rfl, q2⟩
def tGGet {P : Program} {w : World} (R : KRel P w K) (td ty : TE) : TE := fun σ H Q => td σ H fun x H1 => ty σ H1 fun y H2 => ∃ a es k b v, x = .ref a ∧ y = .ref b ∧ H2 a = some (GD R a es) ∧ GKeys R H2 es ∧ R.at_ H2 k b ∧ gAt es k = some v ∧ Q v H2
theorem pe_gget0 (R : KRel X.prog X.w K) (hu : X.A.units + 2 < cLine) (ho : PE X o td) (hi : PE X i ty) (hs : NoSl i) : PE X (.Subscript o i pos) (tGGet R td ty) := by
  intro pins s σ H Q I h
  refine subD_of PySem.F.slot_dict_getitem.lookup hs (thn (ho pins s σ H _ I h) fun u s1 ⟨x, H1, I1, rx, q1⟩ => thn (hi pins s1 σ H1 _ I1 q1) fun iv s2 ⟨y, H2, I2, ry, a, es, k, b, v, ex, ey, ha, hks, hk, hv, q2⟩ => ?_)
  subst ex ey
  obtain rfl : u = Value.ref a := rx
  obtain rfl : iv = Value.ref b := ry
  obtain ⟨z, hd, ys, rel, dd⟩ := gd_of I2.hok ha hks
  obtain ⟨w', hw, rw'⟩ := RelO.some_of (v := v) (o := (atKey ys k).map (·.2)) (by rw [← hv]; exact gAt_rel rel k)
  obtain ⟨p, hp, hp2⟩ := Option.map_eq_some_iff.mp hw
  refine ⟨dd.typeIs, wpAny_getItem_heap (R.room hu) (R.by_ I2.hok hk) dd hp ?_⟩
  rw [hp2]
  exact ⟨v, H2, I2.tok _, rw', q2⟩
def sGPut {P : Program} {w : World} (R : KRel P w K) (td ty tv : TE) : TS := fun D σ H => tv σ H fun v H1 => td σ H1 fun x H2 => ty σ H2 fun y H3 => ∃ a es k b, x = .ref a ∧ y = .ref b ∧ H3 a = some (GD R a es) ∧ GKeys R H3 es ∧ R.at_ H3 k b ∧ es.length < sizeLine ∧ D.nx σ (upd H3 a (GD R a (gPut es k b v)))
theorem ps_gput0 (R : KRel X.prog X.w K) (hu : X.A.units + 2 < cLine) (ho : PE X o td) (hi : PE X i ty) (hv : PE X value tv) (hs : swapsWith value (some (.Subscript o i pos')) pos.line X.env = pure false) :
    PS X (.Assign [.Subscript o i pos'] value pos) (sGPut R td ty tv) := by
  intro pins s σ H D I h
  refine wpAny_Assign_Subscript (thn (hv pins s σ H _ I h) fun r s1 ⟨v, H1, I1, rv, q1⟩ => thn (ho pins s1 σ H1 _ I1 q1) fun u s2 ⟨x, H2, I2, rx, q2⟩ => thn (hi pins s2 σ H2 _ I2 q2) fun iv s3 ⟨y, H3, I3, ry, a, es, k, b, ex, ey, ha, hks, hk, hz, q3⟩ => ?_) hs
  subst ex ey
  obtain rfl : u = Value.ref a := rx
  obtain rfl : iv = Value.ref b := ry
  obtain ⟨z, hd, ys, rel, dd⟩ := gd_of I3.hok ha hks
  have hl := gPut_len es k b v
  refine wpAny_setItem_heap (hsz := by rw [← Paired.length rel]; exact z) (R.room hu) (R.by_ I3.hok hk) dd fun h' dd' hs => ⟨σ, _, d_write I3 (by rw [ha]; exact True.intro) hs (let ⟨q, _, _, hq, _⟩ := dd'; ⟨q, hq⟩) (gd_new (R := R) (by omega) hd (gPut_rel rel k b rv) dd'), q3⟩
theorem pe_gnew {P : Program} {w : World} (R : KRel P w K) {pos : Pos} (hP : X.prog = P := by rfl) (hw : X.w = w := by rfl) : PE X (.Dict [] [] pos) (tGNew R) := by subst hP hw; exact pe_gnew0 R
theorem pc_gnotin {P : Program} {w : World} (R : KRel P w K) (hu : X.A.units + 2 < cLine) (hi : PE X i ty) (ho : PE X o td) (hP : X.prog = P := by rfl) (hw : X.w = w := by rfl) : PC X .NotIn i o (tGNotIn R ty td) := by subst hP hw; exact pc_gnotin0 R hu hi ho
theorem pe_gget {P : Program} {w : World} (R : KRel P w K) (hu : X.A.units + 2 < cLine) (ho : PE X o td) (hi : PE X i ty) (hs : NoSl i) (hP : X.prog = P := by rfl) (hw : X.w = w := by rfl) : PE X (.Subscript o i pos) (tGGet R td ty) := by subst hP hw; exact pe_gget0 R hu ho hi hs
theorem ps_gput {P : Program} {w : World} (R : KRel P w K) (hu : X.A.units + 2 < cLine) (ho : PE X o td) (hi : PE X i ty) (hv : PE X value tv) (hs : swapsWith value (some (.Subscript o i pos')) pos.line X.env = pure false) (hP : X.prog = P := by rfl) (hw : X.w = w := by rfl) :
    PS X (.Assign [.Subscript o i pos'] value pos) (sGPut R td ty tv) := by subst hP hw; exact ps_gput0 R hu ho hi hv hs
end
/-! ### kinds: a number and truths; two numbers and truths; truths -/
section
variable (P : Program) (w : World)
end
end L2

/-! Functions made in a body (lambdas), handed on and called. -/
namespace L2
open PySem PySem.Spec PyProof.Rows
/-- things that stand in the heap, untracked, and stay -/
abbrev Pers := List (Addr × Obj)
def PersIn (pers : Pers) (H : Hp) (fs : List Addr) (h : Heap) : Prop := ∀ p ∈ pers, h.get? p.1 = some p.2 ∧ H p.1 = none ∧ p.1 ∉ fs
/-- the promise of a function that was made in a body, at a heap and all that go on from it -/
def ClOk (P : Program) (w : World) (K : PySem.W.Frag) (mg : Str → Option Value) (base : Heap) (pers : Pers) (k : Nat) (f : Addr) (H : Hp) (sp : Sp) : Prop :=
  ∀ (H' : Hp), Same H H' → ∀ (A : Around) (outer : List Env) (s : Shared) (us : List Value) (vs : List V) (Q : VK), Room k A → Env0 P w K mg base A outer s H' → PersIn pers H' (frs outer) s.heap → Vals vs us → sp vs H' Q E0 →
    codeAny (model P w) A (.call (.ref f) ⟨us, []⟩) (CR CX0 outer P w H' s Q E0) s
theorem ClOk.same {P : Program} {w : World} {K : PySem.W.Frag} {mg : Str → Option Value} {base : Heap} {pers : Pers} {k : Nat} {f : Addr} {H H1 : Hp} {sp : Sp} (h : ClOk P w K mg base pers k f H sp) (s : Same H H1) : ClOk P w K mg base pers k f H1 sp := fun H' s' => h H' (s.trans s')
section
variable {X : Cx}
/-- what stood untracked at the entry stands still -/
theorem Inv.pers {pins : List (Addr × Obj)} {σ : St} {H : Hp} {s : Shared} {pers : Pers} (I : Inv X pins σ H s) (hp : PersIn pers X.H_0 X.fs X.s_0.heap) (hex : X.ex = []) : PersIn pers H (frs X.stack) s.heap := fun p hm => by
  obtain ⟨h1, h2, h3⟩ := hp p hm
  have hx : p.1 ∉ X.ex := by rw [hex]; simp
  refine ⟨I.base.keep _ _ h1 h2 h3 hx, I.base.free _ _ h1 h2 hx, fun z => ?_⟩
  rcases List.mem_cons.mp (I.stkSub _ z) with e | z
  · rw [e] at h1
    exact Nat.lt_irrefl _ (Nat.lt_of_lt_of_le (Heap.lt_size h1) I.ok.above)
  · exact h3 z
end
/-! ### the body of a lambda -/
/-- the names of a lambda: parameters first, then what it captures, then its own -/
structure ClScope (N ps : List Str) (sc : Scope) (cl : List (Str × Addr)) : Prop where
  kind : sc.kind = .function
  co : sc.isCoroutine = false
  gen : sc.isGenerator = false
  nd : N.Nodup
  pre : N.take ps.length = ps
  par : ∀ x ∈ ps, sc.names.lookup x = some .local
  nocell : ∀ y ∈ sc.names, y.2 ≠ .cell
  free : ∀ x, sc.names.lookup x = some .free → ∃ c, cl.lookup x = some c
  apart : ∀ x y c, cl.lookup x = some c → cl.lookup y = some c → x = y
  all : ∀ x c, cl.lookup x = some c → sc.names.lookup x = some .free
/-- a code object of that name -/
def IsCd (qual : Str) (oc : Obj) : Prop := ∃ vs t, oc.data = .fields vs ∧ vs[1]? = some (.str qual t)
/-! ### a lambda is made -/
/-- the table of a def's code -/
structure TabK (mg : Str → Option Value) (base : Heap) (c P : Addr) : Prop where
  hd : PySem.W.CodeHd base c P
  blt : base.BuiltinsAt mg P
  ne : mainGlobals ≠ P
section
variable {X : Cx}
/-- a table grows, two new things are laid -/
theorem Inv.grown {pins : List (Addr × Obj)} {σ : St} {H : Hp} {s : Shared} {P c' f : Addr} {ps more : Array Value} {oc fo : Obj} {h' : Heap} {tk : Nat} (I : Inv X pins σ H s) (hP : H P = some (.tbl ps)) (k : ∀ b u, b ≠ P → s.heap.get? b = some u → h'.get? b = some u)
    (hP' : h'.get? P = some { cls := .none, data := .fields (ps ++ more) }) (hc1 : s.heap.objs.size ≤ c') (hf1 : s.heap.objs.size ≤ f) (ne : c' ≠ f) (hc : h'.get? c' = some oc) (hf : h'.get? f = some fo) :
    Inv X pins σ (upd (upd (upd H P (.tbl (ps ++ more))) c' (.frz oc (.own c'))) f (.frz fo (.own f))) { s with heap := h', toks := tk } := by
  have lt : ∀ {b u}, H b = some u → b < s.heap.objs.size := fun e => I.hok.lt e
  have old : ∀ {b u}, H b = some u → b ≠ P → (upd (upd (upd H P (.tbl (ps ++ more))) c' (.frz oc (.own c'))) f (.frz fo (.own f))) b = some u := fun {b u} e n => by
    rw [upd_ne (Nat.ne_of_lt (Nat.lt_of_lt_of_le (lt e) hf1)), upd_ne (Nat.ne_of_lt (Nat.lt_of_lt_of_le (lt e) hc1)), upd_ne n]; exact e
  have atP : (upd (upd (upd H P (.tbl (ps ++ more))) c' (.frz oc (.own c'))) f (.frz fo (.own f))) P = some (.tbl (ps ++ more)) := by
    rw [upd_ne (Nat.ne_of_lt (Nat.lt_of_lt_of_le (lt hP) hf1)), upd_ne (Nat.ne_of_lt (Nat.lt_of_lt_of_le (lt hP) hc1))]; exact upd_same
  have untr : ∀ {b : Addr}, H b = none → b ≠ P := fun n z => by rw [z, hP] at n; cases n
  refine I.un ⟨fun b o e n _ _ => k b o (untr n) e, fun b o e n _ _ => ⟨o.slots, k b o (untr n) e⟩, fun b o e n _ => ?_, fun b o e _ => ?_, fun b xs e => old e (fun z => by rw [z, hP] at e; cases e), fun b o u e => old e (fun z => by rw [z, hP] at e; cases e), fun b qs e => ?_⟩ (fun b u e => ?_)
  · rw [upd_ne (Nat.ne_of_lt (Nat.lt_of_lt_of_le (Heap.lt_size e) hf1)), upd_ne (Nat.ne_of_lt (Nat.lt_of_lt_of_le (Heap.lt_size e) hc1)), upd_ne (untr n)]; exact n
  · by_cases z : b = P
    · rw [z]; exact ⟨_, hP'⟩
    · exact ⟨o, k b o z e⟩
  · by_cases z : b = P
    · subst z
      rw [hP] at e; cases e
      exact ⟨more, atP⟩
    · exact ⟨#[], by rw [old e z]; simp⟩
  · by_cases zf : b = f
    · subst zf
      rw [upd_same] at e; cases e
      exact ⟨hf, fo, hf⟩
    · rw [upd_ne zf] at e
      by_cases zc : b = c'
      · subst zc
        rw [upd_same] at e; cases e
        exact ⟨hc, oc, hc⟩
      · rw [upd_ne zc] at e
        by_cases zp : b = P
        · subst zp
          rw [upd_same] at e; cases e
          exact hP'
        · rw [upd_ne zp] at e
          exact (I.hok b u e).stay (fun b' u' hb' q => k b' u' (fun z => by
            rcases hb' with r | r
            · exact zp (r.symm.trans z)
            · rw [z, hP] at r; cases r) q) (fun b' q => old q (fun z => by rw [z, hP] at q; cases q)) fun b' xs q => old q (fun z => by rw [z, hP] at q; cases q)
end
/-- the table of a def that makes one lambda -/
def TbOk (H : Hp) (P : Addr) (pos : Pos) (qual : Str) : Prop := H P = some (.tbl #[]) ∨ ∃ c' oc, H P = some (.tbl #[rawInt pos.line, rawInt pos.col, .ref c']) ∧ H c' = some (.frz oc (.own c')) ∧ IsCd qual oc
theorem TbOk.same {H H' : Hp} {P : Addr} {pos : Pos} {qual : Str} (h : TbOk H P pos qual) (s : Same H H') : TbOk H' P pos qual := by
  rcases h with h | ⟨c', oc, h1, h2, h3⟩
  · exact .inl (s _ _ h)
  · exact .inr ⟨c', oc, s _ _ h1, s _ _ h2, h3⟩
theorem TbOk.some {H : Hp} {P : Addr} {pos : Pos} {qual : Str} (h : TbOk H P pos qual) : ∃ ps, H P = some (.tbl ps) := by
  rcases h with h | ⟨c', oc, h1, h2, h3⟩
  · exact ⟨_, h⟩
  · exact ⟨_, h1⟩
/-- all but the table stays -/
def SameB (P : Addr) (H H' : Hp) : Prop := ∀ b o, b ≠ P → H b = some o → H' b = some o
/-! ### a def that is handed a function -/
structure FnOkP (pers : Pers) (P : Program) (w : World) (K : PySem.W.Frag) (mg : Str → Option Value) (base : Heap) (k : Nat) (f : Addr) (fd : FuncData) (ps : List Str) (sp : Sp) : Prop where
  len : ∀ vs H Q E, sp vs H Q E → vs.length = ps.length
  run : ∀ (A : Around) (outer : List Env) (s : Shared) (H : Hp) (args : Args) (us : List Value) (vs : List V) (Q : VK), Room k A → Env0 P w K mg base A outer s H → PersIn pers H (frs outer) s.heap → BindsTo s fd args (ps.zip us) → Vals vs us → sp vs H Q E0 →
    codeAny (model P w) A (.call (.ref f) args) (CR CX0 outer P w H s Q E0) s
section
variable {X : Cx}
end
end L2

namespace Be
open PySem L2
/-! ### dicts by tuples of numbers -/
theorem nat_inj : ∀ {l r : List Nat}, l.map (fun n : Nat => (n : Int)) = r.map (fun n : Nat => (n : Int)) → l = r
  | [], [], _ => rfl
  | [], _ :: _, h => by simp at h
  | _ :: _, [], h => by simp at h
  | a :: l, b :: r, h => by
    rw [List.map_cons, List.map_cons] at h
    injection h with h1 h2
    rw [nat_inj h2, show a = b by omega]
def krI (P : Program) (w : World) : KRel P w (List Nat) where
  hk := mapKind (tupleKind (PySem.intKind P w)) (fun k => k.map fun n : Nat => (n : Int)) (fun _ _ e => nat_inj e)
  at_ := fun H k b => H b = some (.tup (vI k))
  by_ := fun {H h k b} ok e => by
    obtain ⟨_, its, r, o, h1, h2, n, h3⟩ := (show ObjOk P w H h b (.tup (vI k)) from ok b _ e)
    have split : ∀ {xs : List Nat} {us : List Value}, Vals (vI xs) us → ItemsAre (PySem.intKind P w) (xs.map fun n : Nat => (n : Int)) us := by
      intro xs
      induction xs with
      | nil => intro us r; cases r; exact .nil
      | cons a xs ih =>
        intro us r
        cases r with
        | cons ra rb => exact .cons ((kndI P w).is ra) (ih rb)
    exact ⟨o, its.toArray, n, h1, h2, h3, by simpa using split r⟩
  keep := fun kp e => kp _ _ e
  room := fun {A} h => by show A.in1.units < cLine; rw [in1_units]; omega
  room0 := fun {A} h => by show A.units < cLine; omega
theorem gAt_app {α : Type} [DecidableEq α] (es : List (GEnt α)) (k k' : α) (b : Addr) (v : V) (h : gAt es k = none) : gAt (es ++ [(k, b, v)]) k' = if k' = k then some v else gAt es k' := by
  unfold gAt at *
  rw [List.find?_append]
  by_cases e : k' = k
  · subst e
    rw [if_pos rfl]
    rw [Option.map_eq_none_iff] at h
    rw [h]; simp
  · rw [if_neg e]
    cases hf : es.find? fun x => decide (x.1 = k') with
    | some z => rfl
    | none => simp [Ne.symm e]
theorem gAt_map {α : Type} [DecidableEq α] (k k' : α) (v : V) : ∀ (es : List (GEnt α)), gAt (es.map fun x => if x.1 = k then (x.1, x.2.1, v) else x) k' = if k' = k then (gAt es k).map (fun _ => v) else gAt es k'
  | [] => by unfold gAt; simp
  | x :: r => by
    have ih := gAt_map k k' v r
    unfold gAt at *
    rw [List.map_cons, List.find?_cons, List.find?_cons, List.find?_cons]
    by_cases e : k' = k
    · subst e
      rw [if_pos rfl] at *
      by_cases ex : x.1 = k'
      · rw [if_pos ex]; simp [ex]
      · rw [if_neg ex]; simp only [ex, decide_false]; exact ih
    · rw [if_neg e] at *
      by_cases ex : x.1 = k
      · rw [if_pos ex]
        have : x.1 ≠ k' := fun z => e (z.symm.trans ex)
        simp only [this, decide_false]; exact ih
      · rw [if_neg ex]
        by_cases ex' : x.1 = k'
        · simp [ex']
        · simp only [ex', decide_false]; exact ih
theorem gAt_put {α : Type} [DecidableEq α] (es : List (GEnt α)) (k k' : α) (b : Addr) (v : V) : gAt (gPut es k b v) k' = if k' = k then some v else gAt es k' := by
  unfold gPut
  cases h : gAt es k with
  | none => rw [if_neg (by simp)]; exact gAt_app es k k' b v h
  | some z =>
    rw [if_pos (show (some z).isSome = true from rfl), gAt_map]
    by_cases e : k' = k
    · rw [if_pos e, if_pos e, h]; rfl
    · rw [if_neg e, if_neg e]
theorem keys_gPut {α : Type} [DecidableEq α] (es : List (GEnt α)) (k : α) (b : Addr) (v : V) : (gPut es k b v).map (·.1) = if (gAt es k).isSome = true then es.map (·.1) else es.map (·.1) ++ [k] := by
  unfold gPut
  split
  · rw [List.map_map]
    apply List.map_congr_left
    intro x hx
    show (if x.1 = k then (x.1, x.2.1, v) else x).1 = x.1
    split <;> rfl
  · rw [List.map_append]; rfl
theorem gAt_none {α : Type} [DecidableEq α] {es : List (GEnt α)} {k : α} (h : gAt es k = none) : k ∉ es.map (·.1) := by
  intro z
  obtain ⟨e, he, rfl⟩ := List.mem_map.mp z
  unfold gAt at h
  rw [Option.map_eq_none_iff, List.find?_eq_none] at h
  exact h e he (decide_eq_true rfl)
theorem nodup_gPut {α : Type} [DecidableEq α] {es : List (GEnt α)} {k : α} {b : Addr} {v : V} (h : (es.map (·.1)).Nodup) : ((gPut es k b v).map (·.1)).Nodup := by
  rw [keys_gPut]
  cases e : gAt es k with
  | some z => rw [if_pos (show (some z).isSome = true from rfl)]; exact h
  | none =>
    rw [if_neg (by simp)]
    rw [List.nodup_append]
    exact ⟨h, by simp, fun a ha c hc => by rw [List.mem_singleton.mp hc]; exact fun z => gAt_none e (z ▸ ha)⟩
theorem mem_gPut {α : Type} [DecidableEq α] {es : List (GEnt α)} {k k' : α} {b : Addr} {v : V} (h : k' ∈ (gPut es k b v).map (·.1)) : k' = k ∨ k' ∈ es.map (·.1) := by
  rw [keys_gPut] at h
  split at h
  · exact .inr h
  · rcases List.mem_append.mp h with z | z
    · exact .inr z
    · exact .inl (List.mem_singleton.mp z)
/-- all but the object at a stays -/
theorem sb_refl (a : Addr) (H : Hp) : SameB a H H := fun _ _ _ h => h
theorem sb_trans {a : Addr} {H H1 H2 : Hp} (s : SameB a H H1) (t : SameB a H1 H2) : SameB a H H2 := fun b o n e => t b o n (s b o n e)
theorem sb_of {a : Addr} {H H' : Hp} (s : Same H H') : SameB a H H' := fun b o _ e => s b o e
theorem sb_updG {a : Addr} {H : Hp} {o : HO} : SameB a H (upd H a o) := fun b u n e => by rw [upd_ne n]; exact e
section
variable {P : Program} {w : World} {α : Type} [DecidableEq α] {R : KRel P w α}
theorem sb_tup {a : Addr} {es : List (GEnt α)} {H H' : Hp} (s : SameB a H H') (h : H a = some (GD R a es)) {x : Addr} {xs : List V} (e : H x = some (.tup xs)) : H' x = some (.tup xs) :=
  s _ _ (ne_of e h (by intro z; cases z)) e
theorem sb_lst {a : Addr} {es : List (GEnt α)} {H H' : Hp} (s : SameB a H H') (h : H a = some (GD R a es)) {x : Addr} {xs : List V} (e : H x = some (.lst xs)) : H' x = some (.lst xs) :=
  s _ _ (ne_of e h (by intro z; cases z)) e
theorem sb_rows {a : Addr} {es : List (GEnt α)} {H H' : Hp} (s : SameB a H H') (h : H a = some (GD R a es)) {rs : List V} {xss : List (List V)} (r : Rows H rs xss) : Rows H' rs xss :=
  Paired.mapP r fun r xs ⟨p, e, q⟩ => ⟨p, e, sb_lst s h q⟩
theorem sb_mat {a : Addr} {es : List (GEnt α)} {H H' : Hp} (s : SameB a H H') (h : H a = some (GD R a es)) {v : V} {M : Mach} (m : MAt H v M) : MAt H' v M := by
  obtain ⟨c, pm, pe, pq, rs, qs, e, h1, h2, h3, h4, h5, h6⟩ := m
  exact ⟨c, pm, pe, pq, rs, qs, e, sb_tup s h h1, sb_lst s h h2, sb_rows s h h3, sb_lst s h h4, sb_lst s h h5, sb_rows s h h6⟩
end
end Be

namespace Be
open PySem L2
/-- what is known is right -/
structure KnW (M : Mach) (bg : List Nat) (lg : Nat) (es : List (GEnt (List Nat))) : Prop where
  nd : (es.map (·.1)).Nodup
  sz : ∀ k ∈ es.map (·.1), ∃ q j, k = [q, j] ∧ q < M.moves.length ∧ 2 * j ≤ lg
  is : ∀ q j v, gAt es [q, j] = some v → v = .int ((cw M bg (lg - 2 * j) j q : Nat) : Int)
theorem KnW.len {M : Mach} {bg : List Nat} {lg : Nat} {es : List (GEnt (List Nat))} (h : KnW M bg lg es) (hM : M.moves.length ≤ 40) (hl : lg ≤ 5000) : es.length ≤ 100040 := by
  have e : es.length = ((es.map (·.1)).map fun k : List Nat => k.getD 0 0 + 40 * k.getD 1 0).length := by rw [List.length_map, List.length_map]
  rw [e]
  have inj : ∀ (l : List (List Nat)), (∀ k ∈ l, ∃ q j, k = [q, j] ∧ q < M.moves.length ∧ 2 * j ≤ lg) → l.Nodup → (l.map fun k : List Nat => k.getD 0 0 + 40 * k.getD 1 0).Nodup := by
    intro l
    induction l with
    | nil => intro _ _; simp
    | cons a l ih =>
      intro h1 h2
      rw [List.nodup_cons] at h2
      rw [List.map_cons, List.nodup_cons]
      refine ⟨fun z => ?_, ih (fun k hk => h1 k (List.mem_cons_of_mem _ hk)) h2.2⟩
      obtain ⟨b, hb, e⟩ := List.mem_map.mp z
      obtain ⟨q, j, rfl, a1, a3⟩ := h1 a (List.mem_cons_self ..)
      obtain ⟨q', j', rfl, b1, b3⟩ := h1 b (List.mem_cons_of_mem _ hb)
      have e' : q' + 40 * j' = q + 40 * j := e
      have e1 : q' = q := by omega
      have e3 : j' = j := by omega
      subst e1; subst e3
      exact h2.1 hb
  refine nodup_le (inj _ h.sz h.nd) fun y hy => ?_
  obtain ⟨k, hk, rfl⟩ := List.mem_map.mp hy
  obtain ⟨q, j, rfl, a1, a3⟩ := h.sz k hk
  show q + 40 * j < 100040
  omega
theorem KnW.put {M : Mach} {bg : List Nat} {lg i q : Nat} {es : List (GEnt (List Nat))} {b : Addr} (h : KnW M bg lg es) (hq : q < M.moves.length) (hi : 2 * i ≤ lg) : KnW M bg lg (gPut es [q, i] b (.int ((cw M bg (lg - 2 * i) i q : Nat) : Int))) where
  nd := nodup_gPut h.nd
  sz := fun k hk => by
    rcases mem_gPut hk with rfl | z
    · exact ⟨q, i, rfl, hq, hi⟩
    · exact h.sz k z
  is := fun q' j v' e => by
    rw [gAt_put] at e
    by_cases z : [q', j] = [q, i]
    · rw [if_pos z] at e
      injection z with z1 z
      injection z with z2 z
      rw [z1, z2]
      exact (Option.some.inj e).symm
    · rw [if_neg z] at e
      exact h.is q' j v' e

section
variable {P : Program} {w : World} {K : PySem.W.Frag} {mg : Str → Option Value} {base : Heap}
/-! ### _law_ways -/
def spWays (P : Program) (w : World) (n : Nat) : Sp := fun vs H Q _ => ∃ (v : V) (M : Mach) (bg : Str) (lg left i q : Nat) (b kn : Addr) (es : List (GEnt (List Nat))), vs = [v, .int ((lg : Nat) : Int), .str bg, .ref b, .ref kn] ∧ MAt H v M ∧ M.Ok ∧
  Over M.letters bg ∧ bg.cps.size ≤ 5000 ∧ lg = left + 2 * i ∧ lg ≤ 5000 ∧ left < 2 * n ∧ q < M.moves.length ∧ H b = some (.tup [.int ((q : Nat) : Int), .int ((i : Nat) : Int)]) ∧ H kn = some (GD (krI P w) kn es) ∧ GKeys (krI P w) H es ∧ KnW M bg.cps.toList lg es ∧
  ∀ (H' : Hp) (es' : List (GEnt (List Nat))), SameB kn H H' → H' kn = some (GD (krI P w) kn es') → GKeys (krI P w) H' es' → KnW M bg.cps.toList lg es' → Q (.int ((cw M bg.cps.toList left i q : Nat) : Int)) H'
abbrev NWy : List Str := ["_law_machine_here", "_law_long", "_law_begin", "_law_spot", "_law_known", "_law_state", "_law_at", "_law_letters_here", "_law_left", "_law_firsts", "_law_far", "_law_lasts", "_law_found", "_law_first", "_law_last", "_law_there"]
theorem scWy : FnScope NWy ["_law_machine_here", "_law_long", "_law_begin", "_law_spot", "_law_known"] (defScope (top 45)) := ⟨rfl, rfl, rfl, by decide +kernel, rfl, by decide +kernel, by decide +kernel⟩
set_option maxHeartbeats 4000000 in
theorem ways_step {n : Nat} {f : Addr} {fd : FuncData} (D : Def K mg "_law_ways" (top 45) ["_law_machine_here", "_law_long", "_law_begin", "_law_spot", "_law_known"] f fd) (T : BI mg) (GWy : FnOk P w K mg base CX0 (n + 1) f fd ["_law_machine_here", "_law_long", "_law_begin", "_law_spot", "_law_known"] (spWays P w n)) : FnOk P w K mg base CX0 (n + 2) f fd ["_law_machine_here", "_law_long", "_law_begin", "_law_spot", "_law_known"] (spWays P w (n + 1)) := by
  refine D.F.ok scWy (fun vs H Q E h => ?_) (fun cdv A outer s H vs Q E hr h => ?_)
  · obtain ⟨v, M, bg, lg, left, i, q, b, kn, es, rfl, _⟩ := h; rfl
  · obtain ⟨v, M, bg, lg, left, i, q, b, kn, es, rfl, hM, okM, ov, hbz, elg, hlz, hlt, hq, hb, hkn, gk, ko, kk⟩ := h
    refine ⟨_, (pss_cons (ps_if (pt_cmp (pc_gnotin (krI P w) (hu2_of hr) (pv 3) (pv 4))) (pss_cons (ps_asg (pv 3) (pg_tup (by rfl) (pgs_cons (pg_name (i := 5) scWy.nd rfl (Or.inl rfl)) (pgs_cons (pg_name (i := 6) scWy.nd rfl (Or.inl rfl)) pgs_nil))))
      (pss_cons (ps_par (by rfl) scWy.nd (i := 7) (j := 8) rfl rfl (by decide) rfl rfl (pa_cons (pe_ix ix_tup (pv 0) pe_int (fun _ _ => rfl)) (pa_cons (pe_op op_sub (pv 1) (pe_op op_mul pe_int (pv 6))) pa_nil)) (by rfl))
      (pss_cons (ps_set (i := 9) scWy.nd rfl (Or.inl rfl) (pe_joinE (pe_ifExp (pt_cmp (pc_lt (pv 6) (pe_callB call_len_str (by rfl) T.len PySem.boot_len (pa_cons (pv 2) pa_nil)))) (pe_lst (pa_cons (pe_sindex (pv 7) (pe_ix ix_str (pv 2) (pv 6) (fun _ _ => rfl))) pa_nil)) (pe_callTy (call_listR rfl) (by rfl) T.list (by decide +kernel) (pa_cons (pe_callTy call_rng1 (by rfl) T.range (by decide +kernel) (pa_cons (pe_callB call_len_str (by rfl) T.len PySem.boot_len (pa_cons (pv 7) pa_nil)) pa_nil)) pa_nil)))))
      (pss_cons (ps_set (i := 10) scWy.nd rfl (Or.inl rfl) (pe_op op_sub (pe_op op_sub (pv 1) pe_int) (pv 6)))
      (pss_cons (ps_set (i := 11) scWy.nd rfl (Or.inl rfl) (pe_joinE (pe_ifExp (pt_chain op_le op_lt pe_int (pv 10) (pe_callB call_len_str (by rfl) T.len PySem.boot_len (pa_cons (pv 2) pa_nil))) (pe_lst (pa_cons (pe_sindex (pv 7) (pe_ix ix_str (pv 2) (pv 10) (fun _ _ => rfl))) pa_nil)) (pe_callTy (call_listR rfl) (by rfl) T.list (by decide +kernel) (pa_cons (pe_callTy call_rng1 (by rfl) T.range (by decide +kernel) (pa_cons (pe_callB call_len_str (by rfl) T.len PySem.boot_len (pa_cons (pv 7) pa_nil)) pa_nil)) pa_nil)))))
      (pss_cons (ps_set (i := 12) scWy.nd rfl (Or.inl rfl) (pe_joinE (pe_ifExp (pt_cmp (pc_eqI (pv 8) pe_int)) (pe_callTy call_int1 (by rfl) T.int (by decide +kernel) (pa_cons (pe_ix ix_list (pe_ix ix_tup (pv 0) pe_int (fun _ _ => rfl)) (pv 5) (fun _ _ => rfl)) pa_nil)) pe_int)))
      (pss_cons (ps_for PassesOwn.never rfl (pi_list (pe_joinE (pe_ifExp (pt_cmp (pc_gt (pv 8) pe_int)) (pv 9) (pe_lst pa_nil)))) (pg_name (i := 13) scWy.nd rfl (Or.inl rfl))
        (pss_cons (ps_set (i := 12) scWy.nd rfl (Or.inl rfl) (pe_op op_add (pv 12) (pe_callTy call_int1 (by rfl) T.int (by decide +kernel) (pa_cons (pe_and (pe_cmp (pc_eqI (pv 8) pe_int) rfl) (pe_one (pe_ix ix_list (pe_ix ix_list (pe_ix ix_tup (pv 0) pe_int (fun _ _ => rfl)) (pv 5) (fun _ _ => rfl)) (pv 13) (fun _ _ => rfl)))) pa_nil))))
      (pss_one (ps_for PassesOwn.never rfl (pi_list (pe_joinE (pe_ifExp (pt_cmp (pc_gt (pv 8) pe_int)) (pv 11) (pe_lst pa_nil)))) (pg_name (i := 14) scWy.nd rfl (Or.inl rfl))
        (pss_cons (ps_set (i := 15) scWy.nd rfl (Or.inl rfl) (pe_ix ix_list (pe_ix ix_list (pe_ix ix_tup (pv 0) pe_int (fun _ _ => rfl)) (pv 5) (fun _ _ => rfl)) (pe_op op_add (pe_op op_mul (pv 13) (pe_callB call_len_str (by rfl) T.len PySem.boot_len (pa_cons (pv 7) pa_nil))) (pv 14)) (fun _ _ => rfl)))
      (pss_one (ps_set (i := 12) scWy.nd rfl (Or.inl rfl) (pe_op op_add (pv 12) (pe_call GWy hr (by rfl) D.m D.F.kp D.b .nil pass0 (pa_cons (pv 0) (pa_cons (pv 1) (pa_cons (pv 2) (pa_cons (pe_tup (pa_cons (pv 15) (pa_cons (pe_op op_add (pv 6) pe_int) pa_nil))) (pa_cons (pv 4) pa_nil))))))))))))))
      (pss_one (ps_gput (krI P w) (hu2_of hr) (pv 4) (pv 3) (pv 12) rfl))))))))) pss_nil)
      (pss_one (ps_ret (pe_gget (krI P w) (hu2_of hr) (pv 4) (pv 3) (fun _ _ => rfl))))), ?_⟩
    have kb : (krI P w).at_ H [q, i] b := hb
    have nM := okM.n40
    have hk1 : 1 ≤ M.k := okM.let_.k1
    have hk3 : M.k ≤ 3 := okM.let_.k3
    have hzb : bg.length ≤ sizeLine := sz_le (by show bg.cps.size ≤ _; omega)
    have hzL : M.letters.length ≤ sizeLine := sz_le (by show M.letters.cps.size ≤ _; have : M.letters.cps.size ≤ 3 := hk3; omega)
    have hovb : ∀ c ∈ bg.cps.toList, c ∈ M.L := ov
    have ebl : bg.cps.toList.length = bg.cps.size := Array.length_toList
    have elf : lg - 2 * i = left := by omega
    refine ⟨_, rfl, _, rfl, kn, es, [q, i], b, rfl, rfl, hkn, gk, kb, _, rfl, ?_⟩
    cases hga : gAt es [q, i] with
    | some v =>
      have ev := ko.is q i v hga
      rw [elf] at ev
      subst ev
      refine iteF ⟨_, rfl, _, rfl, kn, es, [q, i], b, _, rfl, rfl, hkn, gk, kb, hga, kk H es (sb_refl _ _) hkn gk ko⟩
    | none =>
      refine iteT ?_
      have hi2 : 2 * i ≤ lg := by omega
      obtain ⟨ma, mm, me, mq, mrs, mqs, rfl, m1, m2, m3, m4, m5, m6⟩ := hM
      -- state, at = spot
      refine ⟨_, rfl, b, _, rfl, SqT.of hb, rfl, _, _, rfl, _, _, rfl, rfl, ?_⟩
      have eleft : ((lg : Nat) : Int) - 2 * ((i : Nat) : Int) = ((left : Nat) : Int) := by omega
      refine ⟨_, rfl, ma, _, _, _, rfl, rfl, SqT.of m1, rfl, _, rfl, _, rfl, _, _, rfl, rfl, .inl ⟨by omega, by omega⟩, _, _, rfl, rfl, _, _, rfl, ?_⟩
      dsimp only
      rw [eleft]
      -- firsts
      have one : ∀ {j : Nat}, j < bg.cps.size → ∃ c, bg.cps.toList[j]? = some c ∧ c ∈ M.L ∧ chs M bg.cps.toList j = [M.ix c] := fun {j} hj => by
        have hj' : j < bg.cps.toList.length := by rw [ebl]; exact hj
        have e : bg.cps.toList[j]? = some (bg.cps.toList.getD j 0) := by rw [List.getD_eq_getElem?_getD, List.getElem?_eq_getElem hj', Option.getD_some]
        exact ⟨_, e, hovb _ (List.mem_of_getElem? e), by unfold chs; rw [if_pos hj']⟩
      have all : ∀ {j : Nat}, ¬ j < bg.cps.size → chs M bg.cps.toList j = List.range M.k := fun {j} hj => by
        unfold chs; rw [if_neg (by rw [ebl]; exact hj)]
      refine ⟨fun v H' => ∃ p, v = .ref p ∧ Same H H' ∧ H' p = some (.lst (vI (chs M bg.cps.toList i))), ?_, ?_⟩
      · refine ⟨_, rfl, _, rfl, bg, rfl, hzb, _, _, rfl, rfl, _, rfl, ite2D (fun hc => ?_) (fun hc => ?_)⟩
        · have hc' : i < bg.cps.size := by have : ((i : Nat) : Int) < ((bg.cps.size : Nat) : Int) := hc; omega
          obtain ⟨c, hcx, mc, ec⟩ := one hc'
          refine ⟨_, rfl, ⟨_, rfl⟩, _, rfl, _, rfl, bg, _, _, rfl, rfl, hzb, atI_nat hcx, M.letters, _, rfl, rfl, mc, by show 1 ≤ sizeLine; decide, fun p hp => ⟨p, rfl, Same.upd hp, ?_⟩⟩
          rw [ec]; exact upd_same
        · have hc' : ¬ i < bg.cps.size := by have : ¬ ((i : Nat) : Int) < ((bg.cps.size : Nat) : Int) := hc; omega
          refine ⟨_, rfl, M.letters, rfl, hzL, M.letters.length, rfl, fun p hp => ⟨p, _, rfl, upd_same, by show M.letters.cps.size ≤ _; have : M.letters.cps.size ≤ 3 := hk3; omega, fun p2 hp2 => ⟨p2, rfl, (Same.upd hp).trans (Same.upd hp2), ?_⟩⟩⟩
          rw [all hc']; exact upd_same
      rintro _ H1 ⟨p1, rfl, s1, e1⟩
      -- far, lasts
      refine ⟨_, rfl, _, _, rfl, rfl, _, rfl, _, _, rfl, rfl, ?_⟩
      refine ⟨fun v H' => ∃ p ys, v = .ref p ∧ Same H1 H' ∧ H' p = some (.lst (vI ys)) ∧ (1 ≤ left → ys = chs M bg.cps.toList (lg - 1 - i)), ?_, ?_⟩
      · by_cases hl0 : lg = 0
        · refine ⟨_, rfl, _, _, rfl, rfl, _, rfl, iteND (by show ¬ (0 : Int) ≤ ((lg : Nat) : Int) - 1 - ((i : Nat) : Int); omega) ⟨_, rfl, iteF ?_⟩⟩
          exact ⟨_, rfl, M.letters, rfl, hzL, M.letters.length, rfl, fun p hp => ⟨p, _, rfl, upd_same, by show M.letters.cps.size ≤ _; have : M.letters.cps.size ≤ 3 := hk3; omega, fun p2 hp2 => ⟨p2, _, rfl, (Same.upd hp).trans (Same.upd hp2), upd_same, fun z => by omega⟩⟩⟩
        · have efar : ((lg : Nat) : Int) - 1 - ((i : Nat) : Int) = ((lg - 1 - i : Nat) : Int) := by omega
          dsimp only
          rw [efar]
          refine ⟨_, rfl, _, _, rfl, rfl, _, rfl, iteD (by show (0 : Int) ≤ ((lg - 1 - i : Nat) : Int); omega) ⟨_, rfl, bg, rfl, hzb, _, _, rfl, rfl, _, rfl, ite2D (fun hc => ?_) (fun hc => ?_)⟩⟩
          · have hc' : lg - 1 - i < bg.cps.size := by have : ((lg - 1 - i : Nat) : Int) < ((bg.cps.size : Nat) : Int) := hc; omega
            obtain ⟨c, hcx, mc, ec⟩ := one hc'
            exact ⟨_, rfl, ⟨_, rfl⟩, _, rfl, _, rfl, bg, _, _, rfl, rfl, hzb, atI_nat hcx, M.letters, _, rfl, rfl, mc, by show 1 ≤ sizeLine; decide, fun p hp => ⟨p, [M.ix c], rfl, Same.upd hp, upd_same, fun _ => ec.symm⟩⟩
          · have hc' : ¬ lg - 1 - i < bg.cps.size := by have : ¬ ((lg - 1 - i : Nat) : Int) < ((bg.cps.size : Nat) : Int) := hc; omega
            exact ⟨_, rfl, M.letters, rfl, hzL, M.letters.length, rfl, fun p hp => ⟨p, _, rfl, upd_same, by show M.letters.cps.size ≤ _; have : M.letters.cps.size ≤ 3 := hk3; omega, fun p2 hp2 => ⟨p2, _, rfl, (Same.upd hp).trans (Same.upd hp2), upd_same, fun _ => (all hc').symm⟩⟩⟩
      rintro _ H2 ⟨p2, gs, rfl, s2, e2, hgs⟩
      have s02 := s1.trans s2
      have e1 := s2 _ _ e1
      have hkn2 := s02 _ _ hkn
      have gk2 := gk.keep fun a xs h => s02 _ _ h
      have kb2 : (krI P w).at_ H2 [q, i] b := s02 _ _ kb
      have lz : ∀ {es'}, KnW M bg.cps.toList lg es' → es'.length < sizeLine := fun h => sz_lt (by have := h.len nM hlz; omega)
      have fM : (vB M.ends)[q]? = some (.bl (M.fin q)) := by rw [List.getElem?_map, Mach.fin_at okM hq]; rfl
      have fin_ : ∀ (H' : Hp) (es' : List (GEnt (List Nat))), SameB kn H2 H' → H' kn = some (GD (krI P w) kn es') → GKeys (krI P w) H' es' → KnW M bg.cps.toList lg es' →
          GKeys (krI P w) (upd H' kn (GD (krI P w) kn (gPut es' [q, i] b (.int ((cw M bg.cps.toList left i q : Nat) : Int))))) (gPut es' [q, i] b (.int ((cw M bg.cps.toList left i q : Nat) : Int))) ∧
          (krI P w).at_ (upd H' kn (GD (krI P w) kn (gPut es' [q, i] b (.int ((cw M bg.cps.toList left i q : Nat) : Int))))) [q, i] b ∧
          Q (.int ((cw M bg.cps.toList left i q : Nat) : Int)) (upd H' kn (GD (krI P w) kn (gPut es' [q, i] b (.int ((cw M bg.cps.toList left i q : Nat) : Int))))) := fun H' es' sx hx gx ky => by
        have kb' : (krI P w).at_ H' [q, i] b := sb_tup sx hkn2 kb2
        have g1 : GKeys (krI P w) (upd H' kn (GD (krI P w) kn (gPut es' [q, i] b (.int ((cw M bg.cps.toList left i q : Nat) : Int))))) (gPut es' [q, i] b (.int ((cw M bg.cps.toList left i q : Nat) : Int))) := (GKeys.put gx kb').keep fun a xs h => gd_tup hx h
        refine ⟨g1, gd_tup hx kb', kk _ _ (sb_trans (sb_of s02) (sb_trans sx sb_updG)) upd_same g1 ?_⟩
        have := ky.put (b := b) hq hi2
        rw [elf] at this
        exact this
      have lMi : (M.mids.getD q []).length = M.k := okM.mrows _ (List.mem_of_getElem? (Mach.mids_at okM hq))
      match left, hgs, fin_, elf, elg, hlt with
      | 0, hgs, fin_, elf, elg, hlt =>
        refine ⟨fun v H' => v = .int ((cw M bg.cps.toList 0 i q : Nat) : Int) ∧ H2 = H', ⟨_, rfl, _, _, rfl, rfl, _, rfl, iteD (by rfl) ⟨_, rfl, ma, _, _, _, rfl, rfl, SqT.of (s02 _ _ m1), rfl, _, rfl, me, _, _, _, rfl, rfl, SqL.of (s02 _ _ m4), atI_nat fM, .inr ⟨_, rfl, ?_⟩⟩⟩, ?_⟩
        · refine ⟨?_, rfl⟩
          rw [cw]
          cases M.fin q <;> rfl
        rintro _ _ ⟨rfl, rfl⟩
        refine ⟨fun v H' => ∃ p, v = .ref p ∧ H' p = some (.lst []) ∧ Same H2 H', ⟨_, rfl, _, _, rfl, rfl, _, rfl, iteND (by show ¬ (0 : Int) < ((0 : Nat) : Int); omega) ⟨by show 0 ≤ sizeLine; decide, fun p hp => ⟨p, rfl, upd_same, Same.upd hp⟩⟩⟩, ?_⟩
        rintro _ H5 ⟨p5, rfl, e5, s5⟩
        refine ⟨p5, rfl, ⟨_, SqL.of e5⟩, for_list (K := K) (a := p5) (xs := []) (fun j σ H' => H5 = H' ∧ σ = [some (.ref ma), some (.int ((lg : Nat) : Int)), some (.str bg), some (.ref b), some (.ref kn), some (.int ((q : Nat) : Int)), some (.int ((i : Nat) : Int)), some (.str M.letters), some (.int ((0 : Nat) : Int)), some (.ref p1), some (.int (((lg : Nat) : Int) - 1 - ((i : Nat) : Int))), some (.ref p2), some (.int ((cw M bg.cps.toList 0 i q : Nat) : Int)), none, none, none]) ⟨rfl, rfl⟩ (fun j σ H' _ h => by rw [← h.1]; exact SqL.of e5) ?_ ?_⟩
        · intro j v σ H' hv; simp at hv
        · rintro σ H' ⟨rfl, rfl⟩
          have gx5 := gk2.keep fun a xs h => s5 _ _ h
          obtain ⟨f1, f2, f3⟩ := fin_ H5 es (sb_of s5) (s5 _ _ hkn2) gx5 ko
          refine ⟨_, rfl, _, rfl, _, rfl, kn, es, [q, i], b, rfl, rfl, s5 _ _ hkn2, gx5, s5 _ _ kb2, lz ko, ?_⟩
          refine ⟨_, rfl, _, rfl, kn, _, [q, i], b, _, rfl, rfl, upd_same, f1, f2, by rw [gAt_put, if_pos rfl], f3⟩
      | 1, hgs, fin_, elf, elg, hlt =>
        refine ⟨fun v H' => v = .int ((0 : Nat) : Int) ∧ H2 = H', ⟨_, rfl, _, _, rfl, rfl, _, rfl, iteND (by show ¬ ((1 : Nat) : Int) = 0; omega) ⟨rfl, rfl⟩⟩, ?_⟩
        rintro _ _ ⟨rfl, rfl⟩
        refine ⟨fun v H' => v = .ref p1 ∧ H2 = H', ⟨_, rfl, _, _, rfl, rfl, _, rfl, iteD (by show (0 : Int) < ((1 : Nat) : Int); omega) ⟨_, rfl, rfl, rfl⟩⟩, ?_⟩
        rintro _ _ ⟨rfl, rfl⟩
        have ecw : cw M bg.cps.toList 1 i q = ((chs M bg.cps.toList i).map fun f => if (M.mids.getD q []).getD f false = true then 1 else 0).sum := by rw [cw]
        refine ⟨p1, rfl, ⟨_, SqL.of e1⟩, for_list (K := K) (a := p1) (xs := vI (chs M bg.cps.toList i)) (fun j σ H' => ∃ o13, Same H2 H' ∧ σ = [some (.ref ma), some (.int ((lg : Nat) : Int)), some (.str bg), some (.ref b), some (.ref kn), some (.int ((q : Nat) : Int)), some (.int ((i : Nat) : Int)), some (.str M.letters), some (.int ((1 : Nat) : Int)), some (.ref p1), some (.int (((lg : Nat) : Int) - 1 - ((i : Nat) : Int))), some (.ref p2), some (.int (((((chs M bg.cps.toList i).take j).map fun f => if (M.mids.getD q []).getD f false = true then 1 else 0).sum : Nat) : Int)), o13, none, none])
          ⟨none, fun _ _ h => h, rfl⟩ (fun j σ H' _ ⟨_, h, _⟩ => SqL.of (h _ _ e1)) ?_ ?_⟩
        · rintro j v σ H4 hv ⟨o13, sx, rfl⟩
          have hj : j < (chs M bg.cps.toList i).length := by have := (List.getElem?_eq_some_iff.mp hv).1; simpa using this
          have exi : (chs M bg.cps.toList i)[j]? = some ((chs M bg.cps.toList i)[j]'hj) := List.getElem?_eq_getElem hj
          rw [List.getElem?_map, exi] at hv
          cases Option.some.inj hv
          have etk : (chs M bg.cps.toList i).take (j + 1) = (chs M bg.cps.toList i).take j ++ [(chs M bg.cps.toList i)[j]'hj] := List.take_succ_eq_append_getElem hj
          have hfm := List.getElem_mem hj
          generalize (chs M bg.cps.toList i)[j]'hj = f1 at exi etk hfm ⊢
          have hfk := chs_lt okM hovb hfm
          rw [etk, List.map_append, List.sum_append]
          generalize (((chs M bg.cps.toList i).take j).map fun f => if (M.mids.getD q []).getD f false = true then 1 else 0).sum = acc
          obtain ⟨y1, hy1, hy1l⟩ := m6.at (i := q) (xs := vB (M.mids.getD q [])) (by rw [List.getElem?_map, Mach.mids_at okM hq]; rfl)
          have aM : (vB (M.mids.getD q []))[f1]? = some (.bl ((M.mids.getD q []).getD f1 false)) := by
            have h2 := lMi
            generalize M.mids.getD q [] = zz at h2 ⊢
            rw [List.getElem?_map, List.getD_eq_getElem?_getD, List.getElem?_eq_getElem (by rw [h2]; exact hfk)]; rfl
          have s4 := s02.trans sx
          refine ⟨_, rfl, _, rfl, _, _, rfl, rfl, _, rfl, iteD (by rfl) ⟨_, rfl, ma, _, _, _, rfl, rfl, SqT.of (s4 _ _ m1), rfl, _, rfl, mq, _, _, _, rfl, rfl, SqL.of (s4 _ _ m5), atI_nat hy1, _, rfl, y1, _, _, _, rfl, rfl, SqL.of (s4 _ _ hy1l), atI_nat aM, .inr ⟨_, rfl, _, _, rfl, rfl, ?_⟩⟩⟩
          refine ⟨fun v H' => ∃ p, v = .ref p ∧ H' p = some (.lst []) ∧ Same H4 H', ⟨_, rfl, _, _, rfl, rfl, _, rfl, iteND (by show ¬ (1 : Int) < ((1 : Nat) : Int); omega) ⟨by show 0 ≤ sizeLine; decide, fun p hp => ⟨p, rfl, upd_same, Same.upd hp⟩⟩⟩, ?_⟩
          rintro _ H5 ⟨p5, rfl, e5, s5⟩
          have eacc : ((acc : Nat) : Int) + (if (M.mids.getD q []).getD f1 false = true then 1 else 0 : Int) = ((acc + ([f1].map fun f => if (M.mids.getD q []).getD f false = true then 1 else 0).sum : Nat) : Int) := by
            rw [List.map_cons, List.map_nil, sum_one]
            split <;> omega
          refine ⟨p5, rfl, ⟨_, SqL.of e5⟩, for_list (K := K) (a := p5) (xs := []) (fun j σ H' => H5 = H' ∧ σ = [some (.ref ma), some (.int ((lg : Nat) : Int)), some (.str bg), some (.ref b), some (.ref kn), some (.int ((q : Nat) : Int)), some (.int ((i : Nat) : Int)), some (.str M.letters), some (.int ((1 : Nat) : Int)), some (.ref p1), some (.int (((lg : Nat) : Int) - 1 - ((i : Nat) : Int))), some (.ref p2), some (.int (((acc : Nat) : Int) + (if (M.mids.getD q []).getD f1 false = true then 1 else 0 : Int))), some (.int ((f1 : Nat) : Int)), none, none]) ⟨rfl, rfl⟩ (fun j σ H' _ h => by rw [← h.1]; exact SqL.of e5) ?_ ?_⟩
          · intro j v σ H' hv; simp at hv
          rintro σ H' ⟨rfl, rfl⟩
          exact ⟨_, sx.trans s5, by rw [← eacc]⟩
        · rintro σ H5 ⟨o13, s5, rfl⟩
          rw [show (vI (chs M bg.cps.toList i)).length = (chs M bg.cps.toList i).length from List.length_map _, List.take_length, ← ecw]
          have gx5 := gk2.keep fun a xs h => s5 _ _ h
          obtain ⟨f1, f2, f3⟩ := fin_ H5 es (sb_of s5) (s5 _ _ hkn2) gx5 ko
          refine ⟨_, rfl, _, rfl, _, rfl, kn, es, [q, i], b, rfl, rfl, s5 _ _ hkn2, gx5, s5 _ _ kb2, lz ko, ?_⟩
          refine ⟨_, rfl, _, rfl, kn, _, [q, i], b, _, rfl, rfl, upd_same, f1, f2, by rw [gAt_put, if_pos rfl], f3⟩
      | l + 2, hgs, fin_, elf, elg, hlt =>
        obtain rfl := hgs (by omega)
        rw [show lg - 1 - i = i + l + 1 by omega] at e2
        refine ⟨fun v H' => v = .int ((0 : Nat) : Int) ∧ H2 = H', ⟨_, rfl, _, _, rfl, rfl, _, rfl, iteND (by show ¬ ((l + 2 : Nat) : Int) = 0; omega) ⟨rfl, rfl⟩⟩, ?_⟩
        rintro _ _ ⟨rfl, rfl⟩
        refine ⟨fun v H' => v = .ref p1 ∧ H2 = H', ⟨_, rfl, _, _, rfl, rfl, _, rfl, iteD (by show (0 : Int) < ((l + 2 : Nat) : Int); omega) ⟨_, rfl, rfl, rfl⟩⟩, ?_⟩
        rintro _ _ ⟨rfl, rfl⟩
        have l3 : ∀ {H'}, SameB kn H2 H' → H' p1 = some (.lst (vI (chs M bg.cps.toList i))) := fun sx => sb_lst sx hkn2 e1
        have l4 : ∀ {H'}, SameB kn H2 H' → H' p2 = some (.lst (vI (chs M bg.cps.toList (i + l + 1)))) := fun sx => sb_lst sx hkn2 e2
        obtain ⟨yM, hyM, hyMl⟩ := m3.at (i := q) (xs := vI (M.row q)) (by rw [List.getElem?_map, (Mach.row_len okM hq).2.2]; rfl)
        have ecw : cw M bg.cps.toList (l + 2) i q = ((chs M bg.cps.toList i).map fun f => ((chs M bg.cps.toList (i + l + 1)).map fun g => cw M bg.cps.toList l (i + 1) (M.go1 q (f * M.k + g))).sum).sum := by rw [cw]
        refine ⟨p1, rfl, ⟨_, SqL.of e1⟩, for_list (K := K) (a := p1) (xs := vI (chs M bg.cps.toList i)) (fun j σ H' => ∃ o13 o14 o15 es', SameB kn H2 H' ∧ H' kn = some (GD (krI P w) kn es') ∧ GKeys (krI P w) H' es' ∧ KnW M bg.cps.toList lg es' ∧ σ = [some (.ref ma), some (.int ((lg : Nat) : Int)), some (.str bg), some (.ref b), some (.ref kn), some (.int ((q : Nat) : Int)), some (.int ((i : Nat) : Int)), some (.str M.letters), some (.int ((l + 2 : Nat) : Int)), some (.ref p1), some (.int (((lg : Nat) : Int) - 1 - ((i : Nat) : Int))), some (.ref p2), some (.int (((((chs M bg.cps.toList i).take j).map fun f => ((chs M bg.cps.toList (i + l + 1)).map fun g => cw M bg.cps.toList l (i + 1) (M.go1 q (f * M.k + g))).sum).sum : Nat) : Int)), o13, o14, o15])
          ⟨none, none, none, es, sb_refl _ _, hkn2, gk2, ko, rfl⟩ (fun j σ H' _ ⟨_, _, _, _, h, _⟩ => SqL.of (l3 h)) ?_ ?_⟩
        · rintro j v σ H4 hv ⟨o13, o14, o15, es', sx, hx, gx, ky, rfl⟩
          have hj : j < (chs M bg.cps.toList i).length := by have := (List.getElem?_eq_some_iff.mp hv).1; simpa using this
          have exi : (chs M bg.cps.toList i)[j]? = some ((chs M bg.cps.toList i)[j]'hj) := List.getElem?_eq_getElem hj
          rw [List.getElem?_map, exi] at hv
          cases Option.some.inj hv
          have etk : (chs M bg.cps.toList i).take (j + 1) = (chs M bg.cps.toList i).take j ++ [(chs M bg.cps.toList i)[j]'hj] := List.take_succ_eq_append_getElem hj
          have hfm := List.getElem_mem hj
          generalize (chs M bg.cps.toList i)[j]'hj = f1 at exi etk hfm ⊢
          have hfk := chs_lt okM hovb hfm
          rw [etk, List.map_append, List.sum_append]
          generalize (((chs M bg.cps.toList i).take j).map fun f => ((chs M bg.cps.toList (i + l + 1)).map fun g => cw M bg.cps.toList l (i + 1) (M.go1 q (f * M.k + g))).sum).sum = acc
          -- found + int(False)
          refine ⟨_, rfl, _, rfl, _, _, rfl, rfl, _, rfl, iteND (by show ¬ ((l + 2 : Nat) : Int) = 1; omega) (.inr ⟨_, rfl, _, _, rfl, rfl, ?_⟩)⟩
          -- the inner for
          refine ⟨fun v H' => v = .ref p2 ∧ H4 = H', ⟨_, rfl, _, _, rfl, rfl, _, rfl, iteD (by show (1 : Int) < ((l + 2 : Nat) : Int); omega) ⟨_, rfl, rfl, rfl⟩⟩, ?_⟩
          rintro _ _ ⟨rfl, rfl⟩
          refine ⟨p2, rfl, ⟨_, SqL.of (l4 sx)⟩, for_list (K := K) (a := p2) (xs := vI (chs M bg.cps.toList (i + l + 1))) (fun t σ H' => ∃ o14 o15 es', SameB kn H2 H' ∧ H' kn = some (GD (krI P w) kn es') ∧ GKeys (krI P w) H' es' ∧ KnW M bg.cps.toList lg es' ∧ σ = [some (.ref ma), some (.int ((lg : Nat) : Int)), some (.str bg), some (.ref b), some (.ref kn), some (.int ((q : Nat) : Int)), some (.int ((i : Nat) : Int)), some (.str M.letters), some (.int ((l + 2 : Nat) : Int)), some (.ref p1), some (.int (((lg : Nat) : Int) - 1 - ((i : Nat) : Int))), some (.ref p2), some (.int ((acc + (((chs M bg.cps.toList (i + l + 1)).take t).map fun g => cw M bg.cps.toList l (i + 1) (M.go1 q (f1 * M.k + g))).sum : Nat) : Int)), some (.int ((f1 : Nat) : Int)), o14, o15])
            ⟨o14, o15, es', sx, hx, gx, ky, by rw [List.take_zero]; rfl⟩ (fun j σ H' _ ⟨_, _, _, h, _⟩ => SqL.of (l4 h)) ?_ ?_⟩
          · rintro t v σ H5 hv ⟨o14, o15, es', sx, hx, gx, ky, rfl⟩
            have ht : t < (chs M bg.cps.toList (i + l + 1)).length := by have := (List.getElem?_eq_some_iff.mp hv).1; simpa using this
            have exi : (chs M bg.cps.toList (i + l + 1))[t]? = some ((chs M bg.cps.toList (i + l + 1))[t]'ht) := List.getElem?_eq_getElem ht
            rw [List.getElem?_map, exi] at hv
            cases Option.some.inj hv
            have etk : (chs M bg.cps.toList (i + l + 1)).take (t + 1) = (chs M bg.cps.toList (i + l + 1)).take t ++ [(chs M bg.cps.toList (i + l + 1))[t]'ht] := List.take_succ_eq_append_getElem ht
            have hgm := List.getElem_mem ht
            generalize (chs M bg.cps.toList (i + l + 1))[t]'ht = g1 at exi etk hgm ⊢
            have hgk := chs_lt okM hovb hgm
            rw [etk, List.map_append, List.sum_append, List.map_cons, List.map_nil, sum_one, ← Nat.add_assoc]
            generalize acc + (((chs M bg.cps.toList (i + l + 1)).take t).map fun g => cw M bg.cps.toList l (i + 1) (M.go1 q (f1 * M.k + g))).sum = ac
            have hpl : f1 * M.k + g1 < M.k * M.k := by
              have : (f1 + 1) * M.k ≤ M.k * M.k := Nat.mul_le_mul_right _ hfk
              rw [Nat.add_mul, Nat.one_mul] at this
              omega
            have epl : ((f1 : Nat) : Int) * ((M.letters.length : Nat) : Int) + ((g1 : Nat) : Int) = ((f1 * M.k + g1 : Nat) : Int) := by rw [Int.natCast_add, Int.natCast_mul]; rfl
            have t2 := fun {x xs} => sb_tup sx hkn2 (x := x) (xs := xs)
            have l2 := fun {x xs} => sb_lst sx hkn2 (x := x) (xs := xs)
            have aM : (vI (M.row q))[f1 * M.k + g1]? = some (.int ((M.go1 q (f1 * M.k + g1) : Nat) : Int)) := by rw [List.getElem?_map, Mach.go1_row okM hq hpl]; rfl
            have aM' : atI (vI (M.row q)) (((f1 : Nat) : Int) * ((M.letters.length : Nat) : Int) + ((g1 : Nat) : Int)) = some (.int ((M.go1 q (f1 * M.k + g1) : Nat) : Int)) := by rw [epl]; exact atI_nat aM
            have bM := Mach.go1_lt okM hq hpl
            refine ⟨_, rfl, ma, _, _, _, rfl, rfl, SqT.of (t2 (s02 _ _ m1)), rfl, _, rfl, mm, _, _, _, rfl, rfl, SqL.of (l2 (s02 _ _ m2)), atI_nat hyM, _, rfl, _, rfl, M.letters, rfl, hzL, _, _, rfl, rfl, .inl ⟨by omega, by omega⟩, _, rfl, _, _, rfl, rfl, yM, _, _, _, rfl, rfl, SqL.of (l2 (s02 _ _ hyMl)), aM', ?_⟩
            -- found + _law_ways
            refine ⟨_, rfl, _, rfl, _, rfl, _, rfl, _, rfl, _, rfl, _, _, rfl, rfl, by show 2 ≤ sizeLine; decide, fun b2 hb2 => ?_⟩
            dsimp only
            have ei1 : ((i : Nat) : Int) + 1 = ((i + 1 : Nat) : Int) := by omega
            rw [ei1]
            have s6 : Same H5 (upd H5 b2 (.tup [.int ((M.go1 q (f1 * M.k + g1) : Nat) : Int), .int ((i + 1 : Nat) : Int)])) := Same.upd hb2
            have e6 : (upd H5 b2 (.tup [.int ((M.go1 q (f1 * M.k + g1) : Nat) : Int), .int ((i + 1 : Nat) : Int)])) b2 = some (.tup [.int ((M.go1 q (f1 * M.k + g1) : Nat) : Int), .int ((i + 1 : Nat) : Int)]) := upd_same
            generalize upd H5 b2 (.tup [.int ((M.go1 q (f1 * M.k + g1) : Nat) : Int), .int ((i + 1 : Nat) : Int)]) = H6 at s6 e6 ⊢
            have sx6 := sb_trans sx (sb_of s6)
            have hx6 := s6 _ _ hx
            have gx6 := gx.keep fun a xs h => s6 _ _ h
            refine ⟨_, rfl, .ref ma, M, bg, lg, l, i + 1, M.go1 q (f1 * M.k + g1), b2, kn, es', rfl, sb_mat sx6 hkn2 (MAt.same s02 ⟨ma, mm, me, mq, mrs, mqs, rfl, m1, m2, m3, m4, m5, m6⟩), okM, ov, hbz, by omega, hlz, by omega, bM, e6, hx6, gx6, ky, fun H7 es7 sx7 hx7 gx7 ky7 => ?_⟩
            exact ⟨_, _, rfl, rfl, some (.int ((g1 : Nat) : Int)), some (.int ((M.go1 q (f1 * M.k + g1) : Nat) : Int)), es7, sb_trans sx6 sx7, hx7, gx7, ky7, rfl⟩
          · rintro σ H5 ⟨o14, o15, es', sx, hx, gx, ky, rfl⟩
            rw [show (vI (chs M bg.cps.toList (i + l + 1))).length = (chs M bg.cps.toList (i + l + 1)).length from List.length_map _, List.take_length]
            refine ⟨some (.int ((f1 : Nat) : Int)), o14, o15, es', sx, hx, gx, ky, ?_⟩
            rw [List.map_cons, List.map_nil, sum_one]
        · rintro σ H5 ⟨o13, o14, o15, es', sx, hx, gx, ky, rfl⟩
          rw [show (vI (chs M bg.cps.toList i)).length = (chs M bg.cps.toList i).length from List.length_map _, List.take_length, ← ecw]
          obtain ⟨f1, f2, f3⟩ := fin_ H5 es' sx hx gx ky
          refine ⟨_, rfl, _, rfl, _, rfl, kn, es', [q, i], b, rfl, rfl, hx, gx, sb_tup sx hkn2 kb2, lz ky, ?_⟩
          refine ⟨_, rfl, _, rfl, kn, _, [q, i], b, _, rfl, rfl, upd_same, f1, f2, by rw [gAt_put, if_pos rfl], f3⟩
theorem ok_ways {f : Addr} {fd : FuncData} (D : Def K mg "_law_ways" (top 45) ["_law_machine_here", "_law_long", "_law_begin", "_law_spot", "_law_known"] f fd) (T : BI mg) : ∀ n, FnOk P w K mg base CX0 (n + 1) f fd ["_law_machine_here", "_law_long", "_law_begin", "_law_spot", "_law_known"] (spWays P w n)
  | 0 => ⟨fun vs H Q E h => by obtain ⟨v, M, bg, lg, left, i, q, b, kn, es, _, _, _, _, _, _, _, h, _⟩ := h; omega, fun A outer s H args us vs Q E hr he hb hv h => by obtain ⟨v, M, bg, lg, left, i, q, b, kn, es, _, _, _, _, _, _, _, h, _⟩ := h; omega⟩
  | n + 1 => ways_step D T (ok_ways D T n)
end
end Be

namespace Be
open PySem L2
section
variable {P : Program} {w : World} {K : PySem.W.Frag} {mg : Str → Option Value} {base : Heap}
/-! ### _law_lesser -/
def spLesser (n : Nat) : Sp := fun vs H Q _ => ∃ (v : V) (M : Mach) (x : Str), vs = [v, .str x] ∧ MAt H v M ∧ M.Ok ∧ Over M.letters x ∧ x.cps.size < 2 * n ∧ x.cps.size ≤ 4000 ∧ ∀ H', Same H H' → Q (.int ((num M x.cps.size [] x.cps.toList : Nat) : Int)) H'
abbrev NLe : List Str := ["_law_machine_here", "_law_word", "_law_found", "_law_at", "_law_letter", "_law_less"]
theorem scLe : FnScope NLe ["_law_machine_here", "_law_word"] (defScope (top 46)) := ⟨rfl, rfl, rfl, by decide +kernel, rfl, by decide +kernel, by decide +kernel⟩
theorem knw_nil (M : Mach) (bg : List Nat) (lg : Nat) : KnW M bg lg [] := ⟨by simp, fun k hk => by simp at hk, fun q j v h => by cases h⟩
set_option maxHeartbeats 4000000 in
theorem ok_lesser {n : Nat} {f fWy : Addr} {fd fdWy : FuncData} (D : Def K mg "_law_lesser" (top 46) ["_law_machine_here", "_law_word"] f fd) (T : BI mg)
    (DWy : Def K mg "_law_ways" (top 45) ["_law_machine_here", "_law_long", "_law_begin", "_law_spot", "_law_known"] fWy fdWy) (GWy : FnOk P w K mg base CX0 (n + 1) fWy fdWy ["_law_machine_here", "_law_long", "_law_begin", "_law_spot", "_law_known"] (spWays P w n)) : FnOk P w K mg base CX0 (n + 2) f fd ["_law_machine_here", "_law_word"] (spLesser n) := by
  refine D.F.ok scLe (fun vs H Q E h => ?_) (fun cdv A outer s H vs Q E hr h => ?_)
  · obtain ⟨v, M, x, rfl, _⟩ := h; rfl
  · obtain ⟨v, M, x, rfl, hM, okM, ov, hxn, hxz, kk⟩ := h
    refine ⟨_, (pss_cons (ps_set (i := 2) scLe.nd rfl (Or.inl rfl) pe_int)
      (pss_cons (ps_for PassesOwn.never rfl (pi_enumS (by rfl) T.enumerate (pa_cons (pv 1) pa_nil)) (pg_tup (by rfl) (pgs_cons (pg_name (i := 3) scLe.nd rfl (Or.inl rfl)) (pgs_cons (pg_name (i := 4) scLe.nd rfl (Or.inl rfl)) pgs_nil)))
        (pss_one (ps_for PassesOwn.never rfl (pi_str (pe_slice sl_str (pe_ix ix_tup (pv 0) pe_int (fun _ _ => rfl)) po_none (po_some (pe_sindex (pe_ix ix_tup (pv 0) pe_int (fun _ _ => rfl)) (pv 4))))) (pg_name (i := 5) scLe.nd rfl (Or.inl rfl))
        (pss_one (ps_set (i := 2) scLe.nd rfl (Or.inl rfl) (pe_op op_add (pv 2) (pe_call GWy hr (by rfl) DWy.m DWy.F.kp DWy.b .nil pass0 (pa_cons (pv 0) (pa_cons (pe_callB call_len_str (by rfl) T.len PySem.boot_len (pa_cons (pv 1) pa_nil)) (pa_cons (pe_op op_add_str (pe_slice sl_str (pv 1) po_none (po_some (pv 3))) (pv 5)) (pa_cons (pe_tup (pa_cons pe_int (pa_cons pe_int pa_nil))) (pa_cons (pe_gnew (krI P w)) pa_nil))))))))))))
      (pss_one (ps_ret (pv 2))))), ?_⟩
    have hk3 : M.letters.cps.size ≤ 3 := okM.let_.k3
    have hz : x.length ≤ sizeLine := sz_le (by show x.cps.size ≤ _; omega)
    have hzL : M.letters.length ≤ sizeLine := sz_le (by show M.letters.cps.size ≤ _; omega)
    have exl : x.cps.toList.length = x.cps.size := Array.length_toList
    have hov : ∀ c ∈ x.cps.toList, c ∈ M.L := ov
    obtain ⟨ma, mm, me, mq, mrs, mqs, rfl, m1, _⟩ := id hM
    have sbS : ∀ {kn : Addr} {A B C : Hp}, Same A B → A kn = none → SameB kn B C → Same A C := fun sab hk sbc b o e => sbc b o (ne_of_none e hk) (sab b o e)
    generalize hnn : x.cps.size = nn at kk
    -- for at, letter in enumerate(word)
    refine ⟨_, rfl, x, rfl, for_it (J := Ites x) (n := x.cps.size) (fun j σ H' => ∃ (ac : Nat) (o3 o4 o5 : Option V), σ = [some (.ref ma), some (.str x), some (.int ((ac : Nat) : Int)), o3, o4, o5] ∧ Same H H' ∧ ac + num M nn (x.cps.toList.take j) (x.cps.toList.drop j) = num M nn [] x.cps.toList) ⟨0, none, none, none, rfl, fun _ _ h => h, by simp⟩ (fun j σ H' hj _ => hj) (fun σ H' _ => rfl) ?_ ?_⟩
    · rintro j v σ H3 H4 hj ⟨ac, o3, o4, o5, rfl, s3, ea⟩ ⟨Tp, c, rfl, hTp, rfl, hc⟩
      have sT : Same H3 (upd H3 Tp (.tup [.int (j : Nat), .str ⟨#[c]⟩])) := Same.upd hTp
      have hTT : (upd H3 Tp (.tup [.int (j : Nat), .str ⟨#[c]⟩])) Tp = some (.tup [.int (j : Nat), .str ⟨#[c]⟩]) := upd_same
      generalize upd H3 Tp (.tup [.int (j : Nat), .str ⟨#[c]⟩]) = H4 at sT hTT ⊢
      have s4 := s3.trans sT
      have hc' : x.cps.toList[j]? = some c := by rw [Array.getElem?_toList]; exact hc
      have mc : c ∈ M.L := hov c (List.mem_of_getElem? hc')
      obtain ⟨hjl, ejc⟩ := List.getElem?_eq_some_iff.mp hc'
      have htk : x.cps.toList.take (j + 1) = x.cps.toList.take j ++ [c] := by rw [List.take_succ_eq_append_getElem hjl, ejc]
      have hdr : x.cps.toList.drop j = c :: x.cps.toList.drop (j + 1) := by rw [List.drop_eq_getElem_cons hjl, ejc]
      rw [hdr] at ea
      have ea' : ac + (((M.L.take (M.ix c)).map fun d => pcq M 0 nn (x.cps.toList.take j ++ [d])).sum + num M nn (x.cps.toList.take (j + 1)) (x.cps.toList.drop (j + 1))) = num M nn [] x.cps.toList := by rw [htk]; exact ea
      refine ⟨Tp, _, rfl, SqT.of hTT, rfl, _, _, rfl, _, _, rfl, rfl, ?_⟩
      have hcut := cut_take M.letters (M.letters.cps.toList.idxOf c)
      have hzlen : (cutS M.letters none (some ((M.letters.cps.toList.idxOf c : Nat) : Int))).cps.size ≤ 3 := by
        have := congrArg List.length hcut
        rw [Array.length_toList, List.length_take, Array.length_toList] at this
        omega
      refine ⟨_, rfl, ma, _, _, _, rfl, rfl, SqT.of (s4 _ _ m1), rfl, _, rfl, ma, _, _, _, rfl, rfl, SqT.of (s4 _ _ m1), rfl, ⟨_, rfl⟩, _, rfl, M.letters, c, rfl, rfl, mc, _, rfl, M.letters, rfl, hzL, _, rfl, ?_⟩
      generalize cutS M.letters none (some ((M.letters.cps.toList.idxOf c : Nat) : Int)) = z at hcut hzlen ⊢
      have hcut' : z.cps.toList = M.L.take (M.ix c) := hcut
      refine for_it (J := Its z) (n := z.cps.size) (fun t σ H' => ∃ o5, σ = [some (.ref ma), some (.str x), some (.int ((ac + ((z.cps.toList.take t).map fun d => pcq M 0 nn (x.cps.toList.take j ++ [d])).sum : Nat) : Int)), some (.int ((j : Nat) : Int)), some (.str ⟨#[c]⟩), o5] ∧ Same H H') ⟨_, rfl, s4⟩ (fun j σ H' hj _ => hj) (fun σ H' _ => Nat.le_refl _) ?_ ?_
      · rintro t v σ H5 H6 ht ⟨o5', rfl, s5⟩ ⟨rfl, d, hd, rfl⟩
        have hd0 : z.cps.toList[t]? = some d := by rw [Array.getElem?_toList]; exact hd
        have hd' := hd0
        rw [hcut] at hd'
        have htl : t < M.letters.cps.toList.idxOf c := by
          have := (List.getElem?_eq_some_iff.mp hd').1
          rw [List.length_take] at this; omega
        rw [List.getElem?_take_of_lt htl] at hd'
        have hdL : d ∈ M.L := List.mem_of_getElem? hd'
        obtain ⟨htz, etd⟩ := List.getElem?_eq_some_iff.mp hd0
        have etk : z.cps.toList.take (t + 1) = z.cps.toList.take t ++ [d] := by rw [List.take_succ_eq_append_getElem htz, etd]
        rw [etk, List.map_append, List.sum_append, List.map_cons, List.map_nil, sum_one, ← Nat.add_assoc]
        generalize ac + ((z.cps.toList.take t).map fun d => pcq M 0 nn (x.cps.toList.take j ++ [d])).sum = ad
        have hxt := cut_take x j
        have hxs : (cutS x none (some ((j : Nat) : Int))).cps.size ≤ x.cps.size := by
          have := congrArg List.length hxt
          rw [Array.length_toList, List.length_take, Array.length_toList] at this
          omega
        refine ⟨_, rfl, _, rfl, _, rfl, x, rfl, hz, _, rfl, _, rfl, _, rfl, x, rfl, hz, _, rfl, _, _, rfl, rfl, sz_le (by show (cutS x none (some ((j : Nat) : Int))).cps.size + 1 ≤ _; omega), by show 2 ≤ sizeLine; decide, fun b hb => ?_⟩
        have s7 : Same H6 (upd H6 b (.tup [.int 0, .int 0])) := Same.upd hb
        have e7 : (upd H6 b (.tup [.int 0, .int 0])) b = some (.tup [.int 0, .int 0]) := upd_same
        generalize upd H6 b (.tup [.int 0, .int 0]) = H7 at s7 e7 ⊢
        intro kn hkn
        have hkn1 := s7.free hkn
        have s8 : Same H7 (upd H7 kn (GD (krI P w) kn [])) := Same.upd hkn
        have e8 : (upd H7 kn (GD (krI P w) kn [])) kn = some (GD (krI P w) kn []) := upd_same
        generalize upd H7 kn (GD (krI P w) kn []) = H8 at s8 e8 ⊢
        have s78 := s7.trans s8
        have s08 := s5.trans s78
        have ebg : (cutS x none (some ((j : Nat) : Int)) ++ ⟨#[d]⟩ : Str).cps.toList = x.cps.toList.take j ++ [d] := by
          rw [← hxt]
          show (((cutS x none (some ((j : Nat) : Int))).cps ++ #[d]).toList) = _
          rw [Array.toList_append]
        refine ⟨.ref ma, M, _, x.cps.size, x.cps.size, 0, 0, b, kn, [], rfl, hM.same s08, okM, ?_, ?_, rfl, by omega, by omega, okM.n1, s8 _ _ e7, e8, (fun y hy => by cases hy), knw_nil _ _ _, fun H9 es9 sx _ _ _ => ?_⟩
        · intro y hy
          rw [ebg] at hy
          rcases List.mem_append.mp hy with h | h
          · exact hov y (List.mem_of_mem_take h)
          · rw [List.mem_singleton.mp h]; exact hdL
        · have := congrArg List.length ebg
          rw [Array.length_toList, List.length_append, List.length_take, exl] at this
          have e1 : ([d] : List Nat).length = 1 := rfl
          omega
        have ecp : cw M (x.cps.toList.take j ++ [d]) x.cps.size 0 0 = pcq M 0 nn (x.cps.toList.take j ++ [d]) := by
          rw [hnn]
          exact cw_pcq okM.let_ (by rw [List.length_append, List.length_take]; show min j _ + 1 ≤ nn; omega)
        rw [ebg, ecp]
        exact ⟨_, _, rfl, rfl, some (.str ⟨#[d]⟩), rfl, s5.trans (sbS s78 hkn1 sx)⟩
      · rintro σ H5 ⟨o5', rfl, s5⟩
        refine ⟨_, some (.int ((j : Nat) : Int)), some (.str ⟨#[c]⟩), o5', rfl, s5, ?_⟩
        rw [← Nat.add_assoc] at ea'
        rw [show z.cps.toList.take z.cps.size = z.cps.toList from List.take_of_length_le (by simp), hcut']
        exact ea'
    · rintro σ H3 ⟨ac, o3, o4, o5, rfl, s3, ea⟩
      rw [show x.cps.toList.take x.cps.size = x.cps.toList from List.take_of_length_le (by simp), show x.cps.toList.drop x.cps.size = [] from List.drop_eq_nil_of_le (by simp)] at ea
      have e3 : num M nn x.cps.toList [] = 0 := rfl
      rw [e3, Nat.add_zero] at ea
      rw [← ea] at kk
      exact ⟨_, rfl, kk H3 s3⟩
end
end Be

namespace Be
open PySem L2
theorem mkS_of {y : Str} : mkS y.cps.toList = y := by
  cases y with
  | mk c => rfl
theorem pw0 (M : Mach) (n : Nat) : pw M n [] = (textsL M.L n).filter (M.hasAt 0) := rfl
theorem len_pw {M : Mach} (ok : M.Ok) (n : Nat) : (pw M n []).length = M.cnt n 0 := by
  rw [pw_len]
  unfold pcq
  rw [List.length_nil, Nat.sub_zero]
  exact cnt_texts ok n 0 ok.n1

section
variable {P : Program} {w : World} {K : PySem.W.Frag} {mg : Str → Option Value} {base : Heap}
abbrev NLw : List Str := ["_law_script", "_law_letters_here", "_law_by", "_law_machine_here", "_law_handed", "_law_cell", "_law_long", "_law_due", "_law_word", "_law_number", "_law_many", "_law_before", "_law_numbers", "_law_mirrors"]
theorem scLaw : FnScope NLw ["_law_script"] (defScope (top 47)) := ⟨rfl, rfl, rfl, by decide +kernel, rfl, by decide +kernel, by decide +kernel⟩
abbrev bA : List Stmt := (stB (stN (stB (stN (defBody (top 47)) 2)) 5))
abbrev bB : List Stmt := (stB (stN (stB (stN (defBody (top 47)) 2)) 10))
set_option maxHeartbeats 4000000 in
theorem blk_A {f fHM fWb fNo fMa fLt fCp fVa fCe fTx fLh fLe fDr : Addr} {fdHM fdWb fdNo fdMa fdLt fdCp fdVa fdCe fdTx fdLh fdLe fdDr : FuncData} {cdv : Value} {A : Around} {outer : List Env} {s : Shared} {Hx : Hp} {E : XK} (hr : Room 12 (A.deeper (PyProof.Rows.envOfC "law" (defScope (top 47)) s.heap.objs.size f cdv))) (T : BI mg)
    (DHM : Def K mg "how_many" (top 32) ["machine", "long"] fHM fdHM) (GHM : FnOk P w K mg base CX0 7 fHM fdHM ["machine", "long"] spHowMany)
    (DWb : Def K mg "word_by" (top 33) ["machine", "long", "number"] fWb fdWb) (GWb : FnOk P w K mg base CX0 8 fWb fdWb ["machine", "long", "number"] spWordBy)
    (DNo : Def K mg "number_of" (top 34) ["machine", "word"] fNo fdNo) (GNo : FnOk P w K mg base CX0 8 fNo fdNo ["machine", "word"] spNumberOf)
    (DMa : Def K mg "_law_machine" (top 39) ["_law_script", "_law_by", "_law_letters_here", "_law_most"] fMa fdMa) (GMa : FnOk P w K mg base CX0 3 fMa fdMa ["_law_script", "_law_by", "_law_letters_here", "_law_most"] (spMachine K))
    (DLt : Def K mg "_law_letters" (top 40) ["_law_script"] fLt fdLt) (GLt : FnOk P w K mg base CX0 3 fLt fdLt ["_law_script"] (spLetters K))
    (DCp : Def K mg "_law_copy" (top 41) ["_law_machine_here"] fCp fdCp) (GCp : FnOk P w K mg base CX0 1 fCp fdCp ["_law_machine_here"] spCopy)
    (DVa : Def K mg "_law_value" (top 38) ["_law_cell", "_law_turn"] fVa fdVa) (GVa : FnOk P w K mg base CX0 2 fVa fdVa ["_law_cell", "_law_turn"] spValue)
    (DCe : Def K mg "_law_cell_at" (top 36) ["_law_script", "_law_k"] fCe fdCe) (GCe : FnOk P w K mg base CX0 1 fCe fdCe ["_law_script", "_law_k"] (spCell K))
    (DTx : Def K mg "_law_texts" (top 43) ["_law_letters_here", "_law_long"] fTx fdTx) (GTx : FnOk P w K mg base CX0 1 fTx fdTx ["_law_letters_here", "_law_long"] spTextsX)
    (DLh : Def K mg "_law_has" (top 42) ["_law_machine_here", "_law_word", "_law_state"] fLh fdLh) (GLh : FnOk P w K mg base CX0 1 fLh fdLh ["_law_machine_here", "_law_word", "_law_state"] spLHas)
    (DLe : Def K mg "_law_lesser" (top 46) ["_law_machine_here", "_law_word"] fLe fdLe) (GLe : FnOk P w K mg base CX0 12 fLe fdLe ["_law_machine_here", "_law_word"] (spLesser 10))
    (DDr : Def K mg "_law_drawn" (top 44) ["_law_script", "_law_by", "_law_letters_here", "_law_most"] fDr fdDr) (GDr : FnOk P w K mg base CX0 3 fDr fdDr ["_law_script", "_law_by", "_law_letters_here", "_law_most"] (spDrawn K)) : Blk (cxOf CX0 P w K mg base NLw "law" (defScope (top 47)) f cdv A outer s Hx E).nox bA (fun Dn σ H => ∃ (vP vM vC : V) (B cl : Int) (pd : Addr) (M : Mach) (n num : Nat) (y : List Nat) (o8 o10 o11 o12 : Option V),
    σ = [some vP, some (.str M.letters), some (.int B), some vM, some vC, some (.int cl), some (.int ((n : Nat) : Int)), some (.ref pd), o8, some (.int ((num : Nat) : Int)), o10, o11, o12, none] ∧ MAt H vC M ∧ M.Ok ∧ n ≤ 60 ∧ H pd = some (.lst (vT (pw M n []))) ∧ (pw M n [])[num]? = some y ∧
    ∀ (H' : Hp), Same H H' → Dn.nx [some vP, some (.str M.letters), some (.int B), some vM, some vC, some (.int cl), some (.int ((n : Nat) : Int)), some (.ref pd), o8, some (.int ((num : Nat) : Int)), o10, o11, o12, none] H') := by
  refine ⟨_, (pss_one (ps_if (PW.pt (pw_or (pt_cmpR op_ne (pe_call GWb (hr.mono (by decide)) (by rfl) DWb.m DWb.F.kp DWb.b .nil pass0 (pa_cons (pv 4) (pa_cons (pv 6) (pa_cons (pv 9) pa_nil)))) (pe_ix ix_list (pv 7) (pv 9) (fun _ _ => rfl)) (nomark _)) (pw_or1 (pt_cmp (pc_neI (pe_call GNo (hr.mono (by decide)) (by rfl) DNo.m DNo.F.kp DNo.b .nil pass0 (pa_cons (pv 4) (pa_cons (pe_ix ix_list (pv 7) (pv 9) (fun _ _ => rfl)) pa_nil))) (pv 9)))))) (pss_one (ps_ret pe_bl)) pss_nil)), ?_⟩
  rintro Dn σ H ⟨vP, vM, vC, B, cl, pd, M, n, num, y, o8, o10, o11, o12, rfl, hC, ok, hn, hd, hy, kk⟩
  obtain ⟨hyl, hyo, hyh⟩ := pw_mem.mp (List.mem_of_getElem? hy)
  have hyn : y.length = n := by simpa using hyl
  have hdy : (vT (pw M n []))[num]? = some (.str (mkS y)) := by unfold vT; rw [List.getElem?_map, hy]; rfl
  refine ⟨_, rfl, _, rfl, _, rfl, vC, M, n, num, y, rfl, hC, ok, hn, hy, fun H1 s1 => ?_⟩
  refine ⟨_, rfl, _, rfl, pd, _, _, _, rfl, rfl, SqL.of (s1 _ _ hd), atI_nat hdy, rfl, _, rfl, ?_⟩
  refine iteNS (c := V.str (mkS y) = V.str (mkS y)) rfl ?_
  have e1 : Be.num M (mkS y).cps.size [] (mkS y).cps.toList = num := by
    rw [mkS_list, mkS_size, hyn]; exact num_is ok.let_ hy
  refine ⟨_, rfl, _, rfl, _, rfl, pd, _, _, _, rfl, rfl, SqL.of (s1 _ _ hd), atI_nat hdy, vC, M, mkS y, rfl, hC.same s1, ok, (fun c hc => hyo c (by rw [mkS_list] at hc; exact hc)), (by rw [mkS_size]; omega), (by rw [mkS_list, Mach.has_at]; exact hyh), fun H2 s2 => ?_⟩
  rw [e1]
  exact ⟨_, rfl, _, _, rfl, rfl, _, rfl, iteNS rfl (kk H2 (s1.trans s2))⟩
set_option maxHeartbeats 4000000 in
theorem blk_B {f fHM fWb fNo fMa fLt fCp fVa fCe fTx fLh fLe fDr : Addr} {fdHM fdWb fdNo fdMa fdLt fdCp fdVa fdCe fdTx fdLh fdLe fdDr : FuncData} {cdv : Value} {A : Around} {outer : List Env} {s : Shared} {Hx : Hp} {E : XK} (hr : Room 12 (A.deeper (PyProof.Rows.envOfC "law" (defScope (top 47)) s.heap.objs.size f cdv))) (T : BI mg)
    (DHM : Def K mg "how_many" (top 32) ["machine", "long"] fHM fdHM) (GHM : FnOk P w K mg base CX0 7 fHM fdHM ["machine", "long"] spHowMany)
    (DWb : Def K mg "word_by" (top 33) ["machine", "long", "number"] fWb fdWb) (GWb : FnOk P w K mg base CX0 8 fWb fdWb ["machine", "long", "number"] spWordBy)
    (DNo : Def K mg "number_of" (top 34) ["machine", "word"] fNo fdNo) (GNo : FnOk P w K mg base CX0 8 fNo fdNo ["machine", "word"] spNumberOf)
    (DMa : Def K mg "_law_machine" (top 39) ["_law_script", "_law_by", "_law_letters_here", "_law_most"] fMa fdMa) (GMa : FnOk P w K mg base CX0 3 fMa fdMa ["_law_script", "_law_by", "_law_letters_here", "_law_most"] (spMachine K))
    (DLt : Def K mg "_law_letters" (top 40) ["_law_script"] fLt fdLt) (GLt : FnOk P w K mg base CX0 3 fLt fdLt ["_law_script"] (spLetters K))
    (DCp : Def K mg "_law_copy" (top 41) ["_law_machine_here"] fCp fdCp) (GCp : FnOk P w K mg base CX0 1 fCp fdCp ["_law_machine_here"] spCopy)
    (DVa : Def K mg "_law_value" (top 38) ["_law_cell", "_law_turn"] fVa fdVa) (GVa : FnOk P w K mg base CX0 2 fVa fdVa ["_law_cell", "_law_turn"] spValue)
    (DCe : Def K mg "_law_cell_at" (top 36) ["_law_script", "_law_k"] fCe fdCe) (GCe : FnOk P w K mg base CX0 1 fCe fdCe ["_law_script", "_law_k"] (spCell K))
    (DTx : Def K mg "_law_texts" (top 43) ["_law_letters_here", "_law_long"] fTx fdTx) (GTx : FnOk P w K mg base CX0 1 fTx fdTx ["_law_letters_here", "_law_long"] spTextsX)
    (DLh : Def K mg "_law_has" (top 42) ["_law_machine_here", "_law_word", "_law_state"] fLh fdLh) (GLh : FnOk P w K mg base CX0 1 fLh fdLh ["_law_machine_here", "_law_word", "_law_state"] spLHas)
    (DLe : Def K mg "_law_lesser" (top 46) ["_law_machine_here", "_law_word"] fLe fdLe) (GLe : FnOk P w K mg base CX0 12 fLe fdLe ["_law_machine_here", "_law_word"] (spLesser 10))
    (DDr : Def K mg "_law_drawn" (top 44) ["_law_script", "_law_by", "_law_letters_here", "_law_most"] fDr fdDr) (GDr : FnOk P w K mg base CX0 3 fDr fdDr ["_law_script", "_law_by", "_law_letters_here", "_law_most"] (spDrawn K)) : Blk (cxOf CX0 P w K mg base NLw "law" (defScope (top 47)) f cdv A outer s Hx E).nox bB (fun Dn σ H => ∃ (vP vM vC : V) (B cl : Int) (pd : Addr) (M : Mach) (n num : Nat) (y : List Nat) (bf : Str) (o8 o10 o12 : Option V),
    σ = [some vP, some (.str M.letters), some (.int B), some vM, some vC, some (.int cl), some (.int ((n : Nat) : Int)), some (.ref pd), o8, some (.int ((num : Nat) : Int)), o10, some (.str bf), o12, none] ∧ MAt H vM M ∧ MAt H vC M ∧ M.Ok ∧ n ≤ 15 ∧ (pw M n [])[num]? = some y ∧ bf.cps.toList < y ∧
    ∀ (H' : Hp), Same H H' → Dn.nx [some vP, some (.str M.letters), some (.int B), some vM, some vC, some (.int cl), some (.int ((n : Nat) : Int)), some (.ref pd), some (.str (mkS y)), some (.int ((num : Nat) : Int)), o10, some (.str (mkS y)), o12, none] H') := by
  refine ⟨_, (pss_cons (ps_set (i := 8) scLaw.nd rfl (Or.inl rfl) (pe_call GWb (hr.mono (by decide)) (by rfl) DWb.m DWb.F.kp DWb.b .nil pass0 (pa_cons (pv 4) (pa_cons (pv 6) (pa_cons (pv 9) pa_nil)))))
      (pss_cons (ps_if (PW.pt (pw_or (pt_not (pt_val (pe_callB call_isinst (by rfl) T.isinstance (by decide +kernel) (pa_cons (pv 8) (pa_cons (pe_bltn (v := .ty "str") (by rfl) T.str (by decide +kernel) rfl) pa_nil))))) (pw_or (pt_cmp (pc_neI (pe_callB call_len_str (by rfl) T.len PySem.boot_len (pa_cons (pv 8) pa_nil)) (pv 6))) (pw_or (pt_not (pt_val (pe_call GLh (hr.mono (by decide)) (by rfl) DLh.m DLh.F.kp DLh.b .nil pass0 (pa_cons (pv 3) (pa_cons (pv 8) (pa_cons pe_int pa_nil)))))) (pw_or1 (pt_cmpR op_le_str (pv 8) (pv 11) (nomark _))))))) (pss_one (ps_ret pe_bl)) pss_nil)
      (pss_cons (ps_if (PW.pt (pw_or (pt_cmp (pc_neI (pe_call GNo (hr.mono (by decide)) (by rfl) DNo.m DNo.F.kp DNo.b .nil pass0 (pa_cons (pv 4) (pa_cons (pv 8) pa_nil))) (pv 9))) (pw_or (pt_cmpR (op_neD hr.units) (pv 4) (pv 3) (nomark _)) (pw_or1 (pt_cmp (pc_neI (pe_call GLe (hr.mono (by decide)) (by rfl) DLe.m DLe.F.kp DLe.b .nil pass0 (pa_cons (pv 3) (pa_cons (pv 8) pa_nil))) (pv 9))))))) (pss_one (ps_ret pe_bl)) pss_nil)
      (pss_one (ps_set (i := 11) scLaw.nd rfl (Or.inl rfl) (pv 8)))))), ?_⟩
  rintro Dn σ H ⟨vP, vM, vC, B, cl, pd, M, n, num, y, bf, o8, o10, o12, rfl, hM, hC, ok, hn, hy, hlt, kk⟩
  obtain ⟨hyl, hyo, hyh⟩ := pw_mem.mp (List.mem_of_getElem? hy)
  have hyn : y.length = n := by simpa using hyl
  have e1 : Be.num M (mkS y).cps.size [] (mkS y).cps.toList = num := by
    rw [mkS_list, mkS_size, hyn]; exact num_is ok.let_ hy
  have hov : Over M.letters (mkS y) := fun c hc => hyo c (by rw [mkS_list] at hc; exact hc)
  have hsz : (mkS y).cps.size = n := by rw [mkS_size, hyn]
  have hz : (mkS y).length ≤ sizeLine := sz_le (by show (mkS y).cps.size ≤ _; omega)
  -- word
  refine ⟨_, rfl, _, rfl, _, rfl, vC, M, n, num, y, rfl, hC, ok, by omega, hy, fun H1 s1 => ?_⟩
  -- is a text, of that length, had, behind the one before
  refine ⟨_, rfl, _, _, _, _, rfl, TyOf.str _, rfl, _, rfl, iteF ?_⟩
  refine ⟨_, rfl, mkS y, rfl, hz, _, rfl, _, _, rfl, rfl, _, rfl, iteNS (by show (((mkS y).cps.size : Nat) : Int) = _; rw [hsz]) ?_⟩
  refine ⟨_, rfl, _, rfl, vM, M, mkS y, 0, rfl, hM.same s1, ok, hov, by omega, ok.n1, _, rfl, ?_⟩
  rw [mkS_list, show M.hasAt 0 y = true from hyh]
  refine iteF ?_
  refine ⟨_, rfl, _, rfl, mkS y, bf, rfl, rfl, _, rfl, iteNS (c := bf.cps.toList < (mkS y).cps.toList) (by rw [mkS_list]; exact hlt) ?_⟩
  -- leads back; nothing is changed; as many are ahead
  refine ⟨_, rfl, _, rfl, vC, M, mkS y, rfl, hC.same s1, ok, hov, by omega, (by rw [mkS_list, Mach.has_at]; exact hyh), fun H2 s2 => ?_⟩
  rw [e1]
  refine ⟨_, rfl, _, _, rfl, rfl, _, rfl, iteNS rfl ?_⟩
  have s12 := s1.trans s2
  refine ⟨_, rfl, _, rfl, dM M, dM M, (hC.same s12).dp, (hM.same s12).dp, shaped_dM ok, shaped_dM ok, _, rfl, ?_⟩
  rw [eqv_dM ok]
  refine iteF ?_
  refine ⟨_, rfl, _, rfl, vM, M, mkS y, rfl, hM.same s12, ok, hov, by omega, by omega, fun H3 s3 => ?_⟩
  rw [e1]
  exact ⟨_, rfl, _, _, rfl, rfl, _, rfl, iteNS rfl ⟨_, rfl, kk H3 (s12.trans s3)⟩⟩
end
end Be

namespace Be
open PySem L2
/-! ### a set's table: places rise -/
abbrev Rise (xs : Array Nat) : Prop := ∀ a b, a < b → b < xs.size → xs.getD a 0 < xs.getD b 0
/-- k is where j belongs -/
structure At (xs : Array Nat) (j k : Nat) : Prop where
  le : k ≤ xs.size
  lo : ∀ i, i < k → xs.getD i 0 < j
  hi : ∀ i, k ≤ i → i < xs.size → j ≤ xs.getD i 0
theorem below_go {xs : Array Nat} {j : Nat} (R : Rise xs) : ∀ f lo hi, hi - lo ≤ f → lo ≤ hi → hi ≤ xs.size → (∀ i, i < lo → xs.getD i 0 < j) → (∀ i, hi ≤ i → i < xs.size → j ≤ xs.getD i 0) → At xs j (SetTable.below.go xs j f lo hi)
  | 0, lo, hi, h1, h2, h3, h4, h5 => by
    have e : lo = hi := by omega
    subst e
    exact ⟨h3, h4, h5⟩
  | f + 1, lo, hi, h1, h2, h3, h4, h5 => by
    unfold SetTable.below.go
    by_cases h : lo < hi
    · rw [if_pos h]
      dsimp only
      have hm1 : lo ≤ (lo + hi) / 2 := by omega
      have hm2 : (lo + hi) / 2 < hi := by omega
      generalize (lo + hi) / 2 = m at hm1 hm2
      have hgm : xs.getD m j = xs.getD m 0 := by
        rw [Array.getD_eq_getD_getElem?, Array.getD_eq_getD_getElem?, Array.getElem?_eq_getElem (show m < xs.size by omega)]; rfl
      rw [hgm]
      by_cases hx : xs.getD m 0 < j
      · rw [if_pos hx]
        refine below_go R f (m + 1) hi (by omega) (by omega) h3 (fun i hi' => ?_) h5
        by_cases e : i = m
        · rw [e]; exact hx
        · exact Nat.lt_trans (R i m (by omega) (by omega)) hx
      · rw [if_neg hx]
        refine below_go R f lo m (by omega) hm1 (by omega) h4 fun i hi' hs => ?_
        by_cases e : i = m
        · rw [e]; omega
        · have := R m i (by omega) hs
          omega
    · rw [if_neg h]
      have e : lo = hi := by omega
      subst e
      exact ⟨h3, h4, h5⟩
theorem below_at {xs : Array Nat} {j : Nat} (R : Rise xs) : At xs j (SetTable.below xs j) :=
  below_go R _ 0 xs.size (by omega) (Nat.zero_le _) (Nat.le_refl _) (fun i h => by omega) (fun i h1 h2 => by omega)
theorem At.uniq {xs : Array Nat} {j k k' : Nat} (h : At xs j k) (h' : At xs j k') : k = k' := by
  rcases Nat.lt_trichotomy k k' with e | e | e
  · have h1 := h'.lo k e
    have h2 := h.hi k (Nat.le_refl _) (by have := h'.le; omega)
    omega
  · exact e
  · have h1 := h.lo k' e
    have h2 := h'.hi k' (Nat.le_refl _) (by have := h.le; omega)
    omega
theorem below_zero {xs : Array Nat} (R : Rise xs) : SetTable.below xs 0 = 0 :=
  (below_at R).uniq ⟨Nat.zero_le _, fun i h => by omega, fun i _ _ => Nat.zero_le _⟩
theorem below_next {xs : Array Nat} (R : Rise xs) {i : Nat} (hi : i < xs.size) : SetTable.below xs (xs.getD i 0 + 1) = i + 1 :=
  (below_at R).uniq ⟨hi, fun a h => by
    by_cases e : a = i
    · rw [e]; omega
    · have := R a i (by omega) hi
      omega, fun a h1 h2 => by
    have := R i a (by omega) h2
    omega⟩
theorem ins_size {α : Type} (xs : Array α) {p : Nat} (x : α) (hp : p ≤ xs.size) : (SetTable.insertAt xs p x).size = xs.size + 1 := by
  unfold SetTable.insertAt
  simp
  omega
theorem ins_getD {xs : Array Nat} {p x : Nat} (hp : p ≤ xs.size) (i : Nat) : (SetTable.insertAt xs p x).getD i 0 = if i < p then xs.getD i 0 else if i = p then x else xs.getD (i - 1) 0 := by
  have hl : (SetTable.insertAt xs p x).toList = xs.toList.take p ++ x :: xs.toList.drop p := by
    unfold SetTable.insertAt
    simp [Array.toList_extract]
    rw [List.take_of_length_le (by simp)]
  have g : ∀ (ys : Array Nat) (k : Nat), ys.getD k 0 = ys.toList.getD k 0 := fun ys k => by
    rw [List.getD_eq_getElem?_getD, Array.getElem?_toList, Array.getD_eq_getD_getElem?]
  rw [g, hl, g, g, List.getD_eq_getElem?_getD, List.getD_eq_getElem?_getD, List.getD_eq_getElem?_getD]
  have htl : (xs.toList.take p).length = p := by rw [List.length_take, Array.length_toList]; omega
  by_cases h1 : i < p
  · rw [if_pos h1, List.getElem?_append_left (by omega), List.getElem?_take_of_lt h1]
  · rw [if_neg h1, List.getElem?_append_right (by omega), htl]
    by_cases h2 : i = p
    · rw [if_pos h2, h2, Nat.sub_self]; rfl
    · rw [if_neg h2]
      obtain ⟨m, hm⟩ : ∃ m, i - p = m + 1 := ⟨i - p - 1, by omega⟩
      rw [hm, List.getElem?_cons_succ, List.getElem?_drop]
      congr 2
      omega
theorem ins_rise {xs : Array Nat} {j : Nat} (R : Rise xs) (hj : ∀ i, i < xs.size → xs.getD i 0 ≠ j) : Rise (SetTable.insertAt xs (SetTable.below xs j) j) := by
  obtain ⟨h1, h2, h3⟩ := below_at (j := j) R
  generalize SetTable.below xs j = p at h1 h2 h3 ⊢
  intro a b hab hb
  rw [ins_size xs j h1] at hb
  rw [ins_getD h1, ins_getD h1]
  by_cases a1 : a < p
  · rw [if_pos a1]
    by_cases b1 : b < p
    · rw [if_pos b1]; exact R a b hab (by omega)
    · rw [if_neg b1]
      by_cases b2 : b = p
      · rw [if_pos b2]; exact h2 a a1
      · rw [if_neg b2]; exact R a (b - 1) (by omega) (by omega)
  · rw [if_neg a1, if_neg (by omega : ¬ b < p)]
    by_cases a2 : a = p
    · rw [if_pos a2, if_neg (by omega)]
      have h4 := h3 (b - 1) (by omega) (by omega)
      have h5 := hj (b - 1) (by omega)
      omega
    · rw [if_neg a2, if_neg (by omega)]
      exact R (a - 1) (b - 1) (by omega) (by omega)
/-- the table of a set to which things were only added, and few -/
structure TOk (t : SetTable) (n : Nat) (led : Bool) : Prop where
  size : t.place.size = n
  dum : t.dummies = #[]
  rise : Rise t.place
  led : t.led = led
  mask : t.mask = 7
  plain : t.plain = true
theorem TOk.fresh (led : Bool) : TOk (.fresh 0 0 led) 0 led := ⟨rfl, rfl, fun a b _ h => absurd h (Nat.not_lt_zero _), rfl, rfl, rfl⟩
theorem slot_at {t : SetTable} (hd : t.dummies = #[]) (j : Nat) : t.slot j = if t.place[SetTable.below t.place j]? == some j then .live (SetTable.below t.place j) else .empty := by
  unfold SetTable.slot
  dsimp only
  rw [hd]
  split
  · rfl
  · rfl
theorem slot_free {t : SetTable} (hd : t.dummies = #[]) (R : Rise t.place) {j : Nat} (h : t.slot j = .empty) : ∀ i, i < t.place.size → t.place.getD i 0 ≠ j := fun i hi e => by
  rw [slot_at hd] at h
  have hb : SetTable.below t.place j = i := (below_at R).uniq ⟨by omega, fun a ha => by rw [← e]; exact R a i ha hi, fun a h1 h2 => by
    by_cases z : a = i
    · rw [z, e]; exact Nat.le_refl _
    · have := R i a (by omega) h2
      omega⟩
  have hg : t.place[i]? = some j := by
    rw [← e, Array.getD_eq_getD_getElem?, Array.getElem?_eq_getElem hi]; rfl
  rw [hb, hg, if_pos (by simp)] at h
  cases h
theorem probe_go {t : SetTable} (hd : t.dummies = #[]) {hA : Nat → Int} {h : Int} {j : Nat} {d : Option Nat} : ∀ f p, p.dummy = none → SetTable.probe.go t hA h f p = some (.empty j d) → t.slot j = .empty ∧ d = none
  | 0, p, hp, e => by
    unfold SetTable.probe.go at e
    cases e
  | f + 1, p, hp, e => by
    have ha : (t.advance p).dummy = none := by
      unfold SetTable.advance
      split
      · exact hp
      · exact hp
    unfold SetTable.probe.go at e
    cases hs : t.slot p.j with
    | empty =>
      rw [hs] at e
      dsimp only at e
      injection e with e
      injection e with e1 e2
      exact ⟨by rw [← e1]; exact hs, by rw [← e2]; exact hp⟩
    | dummy =>
      rw [slot_at hd] at hs
      split at hs <;> cases hs
    | live i =>
      rw [hs] at e
      dsimp only at e
      split at e
      · cases e
      · exact probe_go hd f _ ha e
theorem free_slot {t : SetTable} (hd : t.dummies = #[]) {h : Int} {j : Nat} {b : Bool} (e : t.freeSlot h = some (j, b)) : t.slot j = .empty ∧ b = false := by
  unfold SetTable.freeSlot at e
  split at e
  · next k d hk =>
    unfold SetTable.probe at hk
    obtain ⟨h1, h2⟩ := probe_go hd _ _ rfl hk
    subst h2
    injection e with e
    injection e with e1 e2
    exact ⟨by rw [← e1]; exact h1, e2.symm⟩
  · cases e
/-! a small table always has a free slot that is met -/
theorem slot_live {t : SetTable} (hd : t.dummies = #[]) {j i : Nat} (h : t.slot j = .live i) : t.place[i]? = some j := by
  rw [slot_at hd] at h
  split at h
  · next e =>
    injection h with h
    rw [← h]
    simpa using e
  · cases h
theorem slot_two {t : SetTable} (hd : t.dummies = #[]) {j : Nat} (h : t.slot j ≠ .empty) : ∃ i : Nat, t.place[i]? = some j ∧ t.slot j = .live i := by
  cases e : t.slot j with
  | empty => exact absurd e h
  | dummy =>
    rw [slot_at hd] at e
    split at e <;> cases e
  | live i => exact ⟨i, slot_live hd e, rfl⟩
def pr (j pert : Nat) : SetTable.Probe := ⟨j, 0, j, pert, none⟩
theorem pr_adv {t : SetTable} (h7 : t.mask = 7) (j pert : Nat) : t.advance (pr j pert) = pr ((j * 5 + 1 + pert / 32) % 8) (pert / 32) := by
  have hl : (j * 5 + 1 + pert / 32) % 8 < 8 := Nat.mod_lt _ (by decide)
  unfold SetTable.advance pr
  rw [if_neg (by show ¬ (0 > 0); omega)]
  unfold SetTable.leap SetTable.runEnd
  rw [h7]
  dsimp only
  rw [if_neg (by omega), Nat.sub_self]
theorem go_step {t : SetTable} (hd : t.dummies = #[]) (h7 : t.mask = 7) {h : Int} (f j pert : Nat) :
    SetTable.probe.go t (fun _ => h + 1) h (f + 1) (pr j pert) = if t.slot j = .empty then some (.empty j none) else SetTable.probe.go t (fun _ => h + 1) h f (pr ((j * 5 + 1 + pert / 32) % 8) (pert / 32)) := by
  conv => lhs; unfold SetTable.probe.go
  by_cases e : t.slot j = .empty
  · rw [if_pos e]
    show (match t.slot j with | .empty => _ | .dummy => _ | .live i => _) = _
    rw [e]; rfl
  · rw [if_neg e]
    obtain ⟨i, _, hi⟩ := slot_two hd e
    show (match t.slot j with | .empty => _ | .dummy => _ | .live i => _) = _
    rw [hi]
    dsimp only
    have hne : (h + 1 == h) = false := by rw [beq_eq_false_iff_ne]; omega
    rw [hne, if_neg Bool.false_ne_true, pr_adv h7]
theorem go_met {t : SetTable} (hd : t.dummies = #[]) (h7 : t.mask = 7) (hs : t.place.size ≤ 2) {h : Int} : ∀ k f j pert, pert < 32 ^ k → k + 3 ≤ f → ∃ j', SetTable.probe.go t (fun _ => h + 1) h f (pr j pert) = some (.empty j' none)
  | 0, f, j, pert, hp, hf => by
    obtain rfl : pert = 0 := by omega
    obtain ⟨f, rfl⟩ : ∃ g, f = g + 3 := ⟨f - 3, by omega⟩
    rw [go_step hd h7]
    by_cases e0 : t.slot j = .empty
    · rw [if_pos e0]; exact ⟨_, rfl⟩
    rw [if_neg e0, go_step hd h7]
    by_cases e1 : t.slot ((j * 5 + 1 + 0 / 32) % 8) = .empty
    · rw [if_pos e1]; exact ⟨_, rfl⟩
    rw [if_neg e1, go_step hd h7]
    by_cases e2 : t.slot ((((j * 5 + 1 + 0 / 32) % 8) * 5 + 1 + 0 / 32 / 32) % 8) = .empty
    · rw [if_pos e2]; exact ⟨_, rfl⟩
    obtain ⟨i0, a0, _⟩ := slot_two hd e0
    obtain ⟨i1, a1, _⟩ := slot_two hd e1
    obtain ⟨i2, a2, _⟩ := slot_two hd e2
    obtain ⟨b0, _⟩ := Array.getElem?_eq_some_iff.mp a0
    obtain ⟨b1, _⟩ := Array.getElem?_eq_some_iff.mp a1
    obtain ⟨b2, _⟩ := Array.getElem?_eq_some_iff.mp a2
    exfalso
    have h3 : i0 = i1 ∨ i0 = i2 ∨ i1 = i2 := by omega
    rcases h3 with rfl | rfl | rfl
    · rw [a0] at a1
      have := Option.some.inj a1
      omega
    · rw [a0] at a2
      have := Option.some.inj a2
      omega
    · rw [a1] at a2
      have := Option.some.inj a2
      omega
  | k + 1, f, j, pert, hp, hf => by
    obtain ⟨f, rfl⟩ : ∃ g, f = g + 1 := ⟨f - 1, by omega⟩
    rw [go_step hd h7]
    by_cases e0 : t.slot j = .empty
    · rw [if_pos e0]; exact ⟨_, rfl⟩
    rw [if_neg e0]
    exact go_met hd h7 hs k f _ _ (by rw [Nat.pow_succ] at hp; omega) (by omega)
theorem free_some {t : SetTable} (hd : t.dummies = #[]) (h7 : t.mask = 7) (hs : t.place.size ≤ 2) (h : Int) : ∃ j, t.freeSlot h = some (j, false) := by
  have hb : SetTable.bits h < 32 ^ 13 := by
    unfold SetTable.bits
    have h1 : h % (2 ^ 64 : Int) < 2 ^ 64 := Int.emod_lt_of_pos _ (by decide)
    have h2 : 0 ≤ h % (2 ^ 64 : Int) := Int.emod_nonneg _ (by decide)
    have h3 : (32 : Nat) ^ 13 = 36893488147419103232 := by decide
    rw [h3]
    omega
  have hp : t.probeStart h = pr (SetTable.bits h % 8) (SetTable.bits h) := by
    have hl : SetTable.bits h % 8 < 8 := Nat.mod_lt _ (by decide)
    unfold SetTable.probeStart SetTable.runEnd pr
    rw [h7]
    dsimp only
    rw [if_neg (by omega), Nat.sub_self]
  obtain ⟨j, e⟩ := go_met hd h7 hs (h := h) 13 (10 * SetTable.turns t.mask) (SetTable.bits h % 8) (SetTable.bits h) hb (by rw [h7]; decide)
  refine ⟨j, ?_⟩
  unfold SetTable.freeSlot SetTable.probe
  rw [hp, e]; rfl
theorem layNew_ok {t : SetTable} {n : Nat} {led : Bool} {es : Array (Int × Value)} {h : Int} {x : Value} (T : TOk t n led) (he : es.size = n) (hn : n ≤ 2) :
    TOk (layNew t es h x).2.1 (n + 1) led ∧ (layNew t es h x).2.2.1 = false := by
  unfold layNew
  obtain ⟨slot, e⟩ := free_some T.dum T.mask (by rw [T.size]; exact hn) h
  rw [e]
  obtain ⟨h1, _⟩ := free_slot T.dum e
  dsimp only
  have hp := below_at (j := slot) T.rise
  have hple := hp.le
  rw [T.size] at hple
  have es1 : (SetTable.insertAt es (t.put slot).2 (h, x)).size = n + 1 := by
    rw [ins_size es _ (by show SetTable.below t.place slot ≤ _; omega), he]
  have hput : TOk (t.put slot).1 (n + 1) led := ⟨by
    show (SetTable.insertAt t.place (SetTable.below t.place slot) slot).size = _
    rw [ins_size _ _ hp.le, T.size], by
    show (if SetTable.has t.dummies slot = true then _ else t.dummies) = #[]
    rw [T.dum]; rfl, ins_rise T.rise (slot_free T.dum T.rise h1), T.led, T.mask, T.plain⟩
  refine ⟨?_, rfl⟩
  rw [es1]
  unfold SetTable.orStandIn
  have hfit : (t.put slot).1.fits (n + 1) = true := by
    unfold SetTable.fits SetTable.fill
    rw [hput.dum, hput.size, hput.mask]
    simp
    omega
  rw [if_pos hfit]
  exact hput
end Be

namespace Be
open PySem L2
/-! ### a set of few ints that can be walked over -/
def intOf : Value → Int
  | .int k _ => k
  | _ => 0
def SetS (prog : Program) (w : World) (h : Heap) (a : Addr) (ns : List Int) (n : Nat) (led : Bool) : Prop :=
  ∃ o es ep t, h.get? a = some o ∧ o.ExactSet ∧ o.data = .set es ep t ∧ ElemsOf (intKind prog w) es.toList ∧ (∀ e ∈ es.toList, ∃ k u, e.2 = Value.int k u) ∧
    (es.toList.map fun e => intOf e.2).Nodup ∧ (∀ k, k ∈ es.toList.map (fun e => intOf e.2) ↔ k ∈ ns) ∧ TOk t es.size led ∧ es.size ≤ n
theorem TOk.fits {t : SetTable} {n : Nat} {led : Bool} (T : TOk t n led) (hn : n ≤ 7) : t.fits n = true := by
  have h1 := T.size
  have h2 := T.mask
  unfold SetTable.fits SetTable.fill
  rw [T.dum, h1]
  simp
  omega
theorem TOk.room {t : SetTable} {n : Nat} {led : Bool} (T : TOk t n led) (hn : n ≤ 3) : t.tooFull = false := by
  have h1 := T.size
  have h2 := T.mask
  unfold SetTable.tooFull SetTable.fill
  rw [T.dum, h1]
  simp
  omega
section
variable {prog : Program} {w : World} {A : Around} {E : Value → Shared → Prop} {s : Shared}
theorem addS {a : Addr} {ns : List Int} {n : Nat} {led : Bool} {k : Int} {u : Tok} {Q : Bool → Shared → Prop} (hS : SetS prog w s.heap a ns n led) (hn : n + 1 ≤ 3)
    (h : ∀ b h', Heap.SameBut a s.heap h' → SetS prog w h' a (ns ++ [k]) (n + 1) led → Q b { s with heap := h' }) :
    wpAny (model prog w) A (setAddHashed a (.int k u) ((intKind prog w).hash k)) Q E s := by
  obtain ⟨o, es, ep, t, ho, hex, hd, hel, hint, hnd, hmem, T, hsz⟩ := hS
  have hkey : (intKind prog w).is k (.int k u) = true := intKind_is _ _ _ _
  have hsc : (Value.int k u).scannable = true := rfl
  have hb : es.size < scanBound := by unfold scanBound; omega
  have hf := T.fits (by omega)
  unfold setAddHashed setAddHashedIn
  refine wpAny_holding (wpAny_bind (wpAny_setState_of ho hd hf ?_))
  dsimp only
  rw [byScan_of hsc hb hel]
  simp only [↓reduceIte]
  unfold setAddByScan
  refine wpAny_bind (wpAny_bind (wpAny_rule (wpAny_bind (wpAny_setScan_of hkey ho hd hf hel ?_))))
  cases hr : List.findIdx? (fun e => (intKind prog w).is k e.2) es.toList with
  | some j =>
    dsimp only
    obtain ⟨hj, hpj, _⟩ := List.findIdx?_eq_some_iff_getElem.mp hr
    obtain ⟨k', u', ek⟩ := hint _ (List.getElem_mem hj)
    have ekk : k' = k := by
      rw [ek] at hpj
      exact (intKind prog w).inj _ _ _ (intKind_is _ _ _ _) hpj
    have hin : k ∈ ns := (hmem k).mp (List.mem_map.mpr ⟨_, List.getElem_mem hj, by rw [ek, ekk]; rfl⟩)
    have e : s = { s with heap := s.heap } := by cases s; rfl
    have := h false s.heap (Heap.SameBut.refl a s.heap) ⟨o, es, ep, t, ho, hex, hd, hel, hint, hnd, fun k2 => by
      rw [hmem k2, List.mem_append, List.mem_singleton]
      exact ⟨.inl, fun z => z.elim id fun z => by rw [z]; exact hin⟩, T, by omega⟩
    rw [e]
    exact wpAny_pure (wpAny_pure this)
  | none =>
    dsimp only
    have hnin : k ∉ es.toList.map fun e => intOf e.2 := fun z => by
      obtain ⟨e, he, ek⟩ := List.mem_map.mp z
      obtain ⟨k', u', e2⟩ := hint e he
      have h1 := List.findIdx?_eq_none_iff.mp hr e he
      rw [e2] at ek h1
      have ek' : k' = k := ek
      rw [ek', intKind_is] at h1
      cases h1
    have hperm := layNew_perm t es ((intKind prog w).hash k) (.int k u)
    obtain ⟨T1, hw⟩ := layNew_ok (es := es) (h := (intKind prog w).hash k) (x := .int k u) T rfl (by omega)
    generalize layNew t es ((intKind prog w).hash k) (.int k u) = L at hperm T1 hw ⊢
    obtain ⟨es1, t1, wasDummy, gave⟩ := L
    dsimp only at hperm T1 hw ⊢
    subst hw
    rw [Array.toList_push] at hperm
    have hsz1 : es1.size = es.size + 1 := by rw [← Array.length_toList, hperm.length_eq, List.length_append, Array.length_toList]; rfl
    have hgw : ∀ (b : Bool) {s₁ : Shared} {Q' : Unit → Shared → Prop}, Q' () s₁ → wpAny (model prog w) A (match b with | true => rule "set.scan.the-table-gave-way" | false => pure ()) Q' E s₁ :=
      fun b s₁ Q' hq => by cases b <;> first | exact wpAny_pure hq | exact wpAny_rule hq
    refine wpAny_bind (hgw _ ?_)
    have fin : Q true { s with heap := s.heap.update a (Obj.putSet es1 t1) } := by
      have hg : (s.heap.update a (Obj.putSet es1 t1)).get? a = some { o with data := .set es1 (ep + 1) t1 } := by
        have := Heap.get?_update_self (Obj.putSet es1 t1) ho (by rw [putSet_of es1 t1 hd]; rfl)
        rw [putSet_of es1 t1 hd] at this; exact this
      have hmm : (es1.toList.map fun e => intOf e.2).Perm ((es.toList.map fun e => intOf e.2) ++ [k]) := by
        have := hperm.map fun e => intOf e.2
        rw [List.map_append] at this
        exact this
      refine h true _ (Heap.SameBut.update s.heap a _) ⟨_, es1, ep + 1, t1, hg, hex, rfl, (hel.push hkey hsc).perm hperm, fun e he => ?_, ?_, fun k2 => ?_, by rw [hsz1]; exact T1, by omega⟩
      · rcases List.mem_append.mp (hperm.mem_iff.mp he) with z | z
        · exact hint e z
        · rw [List.mem_singleton] at z; rw [z]; exact ⟨k, u, rfl⟩
      · rw [hmm.nodup_iff, List.nodup_append]
        exact ⟨hnd, by simp, fun x hx y hy => by rw [List.mem_singleton] at hy; rw [hy]; exact fun z => hnin (by rw [← z]; exact hx)⟩
      · rw [hmm.mem_iff, List.mem_append, List.mem_append, hmem k2]
    have hroom : (!false && t1.tooFull) = false := by rw [T1.room (by omega)]; rfl
    have hz1 : es1.size ≤ sizeLine := fits_of_scanBound (by unfold scanBound; omega)
    split
    · rw [hashByValue_scannable 8 hsc]
      refine wpAny_bind (wpAny_pure ?_)
      show wpAny (model prog w) A (storeSet a es1 t1 >>= fun _ => if (!false && t1.tooFull) = true then _ else pure (some true)) _ E s
      refine wpAny_bind (wpAny_storeSet_of ho hd ?_ hz1)
      rw [hroom]
      exact wpAny_pure (wpAny_pure fin)
    · refine wpAny_bind (wpAny_pure ?_)
      show wpAny (model prog w) A (storeSet a es1 t1 >>= fun _ => if (!false && t1.tooFull) = true then _ else pure (some true)) _ E s
      refine wpAny_bind (wpAny_storeSet_of ho hd ?_ hz1)
      rw [hroom]
      exact wpAny_pure (wpAny_pure fin)
/-! ### set(xs) -/
open PyProof.Rows in
theorem loopS {R : Result → Shared → Prop} {I : Addr} {fp wr : List Addr} {G : Array GenState → Array GenState → Prop} {n : Nat} {Pv : Nat → Value → Prop} {St : Nat → Shared → Prop} (W : WalksS prog w A.in1 I fp wr G n Pv St) (S : Addr) (hSf : S ∉ fp)
    (val : Nat → Int) (hval : ∀ i v, Pv i v → ∃ t, v = .int (val i) t) (hb : n ≤ 3) (led : Bool) :
    ∀ (k i : Nat) (s : Shared), n - i = k → i ≤ n → St i s → SetS prog w s.heap S ((List.range i).map val) i led →
      (∀ s', Moved (S :: wr) G s s' → SetS prog w s'.heap S ((List.range n).map val) n led → R (.ok (.ret .none)) s') →
      codeAny (model prog w) A (.builtin "set.update.loop" ⟨[.ref S, .ref I], []⟩) R s := by
  have nw : S ∉ wr := fun h => hSf (W.sub _ h)
  have up : ∀ b ∈ wr, b ∈ S :: wr := fun b hb => List.mem_cons_of_mem _ hb
  have keep : ∀ {s s' : Shared} {i : Nat}, Moved wr G s s' → SetS prog w s.heap S ((List.range i).map val) i led → SetS prog w s'.heap S ((List.range i).map val) i led := fun hm h => by
    obtain ⟨o, es, ep, t, ho, rest⟩ := h
    exact ⟨o, es, ep, t, hm.heap S _ nw ho, rest⟩
  intro k
  induction k with
  | zero =>
    intro i s hk hi hst hS hR
    obtain rfl : i = n := by omega
    refine codeAny_builtin F.entry_set_update_loop ?_
    rw [Around.under_plainId F.plain_set_update_loop _]
    show wpAny _ A.in1 (pyNext (.ref I) >>= _) _ _ s
    refine wpAny_bind (W.done s _ _ hst fun s' hm => ?_)
    show wpAny _ A.in1 (ret Value.none) _ _ s'
    exact wpAny_pure (hR s' (hm.mono up) (keep hm hS))
  | succ k ih =>
    intro i s hk hi hst hS hR
    refine codeAny_builtin F.entry_set_update_loop ?_
    rw [Around.under_plainId F.plain_set_update_loop _]
    show wpAny _ A.in1 (pyNext (.ref I) >>= _) _ _ s
    refine wpAny_bind (W.item i s _ _ (by omega) hst fun v s' hP hst' hm => ?_)
    obtain ⟨u, rfl⟩ := hval i v hP
    show wpAny _ A.in1 (holding [Value.int (val i) u] (setAdd S (.int (val i) u)) >>= _) _ _ s'
    refine wpAny_bind (wpAny_holding ?_)
    unfold setAdd
    refine wpAny_holding (wpAny_bind ((intKind prog w).pyHash (k := val i) (intKind_is _ _ _ _) ?_))
    refine addS (s := { s' with toks := s'.toks + 1 }) (show SetS prog w s'.heap S _ i led from keep hm hS) (by omega) fun b h' hsb hS2 => ?_
    have e : (List.range i).map val ++ [val i] = (List.range (i + 1)).map val := by rw [List.range_succ, List.map_append]; rfl
    rw [e] at hS2
    refine wpAny_pure ⟨plainId_quiet F.plain_set_update_loop _, ih (i + 1) _ (by omega) (by omega) (W.frame _ s' _ _ hst' (Nat.le_succ _) fun b hb o e => ?_) hS2 fun s'' hm2 hS3 => ?_⟩
    · rw [hsb.2 b (fun h : b = S => hSf (by rw [← h]; exact hb))]; exact e
    · exact hR s'' (Moved.trans W.gtrans ((hm.mono up).then_heap (Nat.le_succ _) fun b o hb e => by
        rw [hsb.2 b (fun h : b = S => hb (by rw [h]; exact List.mem_cons_self))]; exact e) hm2) hS3
end
theorem erase_perm {α : Type} : ∀ (l : List α) (i : Nat) (h : i < l.length), (l[i] :: l.eraseIdx i).Perm l
  | a :: l, 0, _ => List.Perm.refl _
  | a :: l, i + 1, h => (List.Perm.swap a _ _).trans ((erase_perm l i (by rw [List.length_cons] at h; omega)).cons a)
theorem pick_perm {α : Type} (nx : Nat → Nat) : ∀ f k (l : List α) (out : Array α), f = l.length → (pickOrder.go nx f k l out).toList.Perm (out.toList ++ l)
  | 0, k, l, out, h => by
    unfold pickOrder.go
    rw [List.length_eq_zero_iff.mp h.symm, List.append_nil]
  | f + 1, k, l, out, h => by
    have hl : nx k % l.length < l.length := Nat.mod_lt _ (by omega)
    unfold pickOrder.go
    rw [List.getElem?_eq_getElem hl]
    dsimp only
    refine (pick_perm nx f (k + 1) _ _ (by rw [List.length_eraseIdx_of_lt hl]; omega)).trans ?_
    rw [Array.toList_push, List.append_assoc]
    exact List.Perm.append_left _ (erase_perm _ _ hl)
end Be

namespace Be
open PySem L2
abbrev byT (w : World) : Bool := w.params.followText "set-order"
abbrev newO (w : World) : Obj := { cls := .type "set", dict := none, data := .set #[] 0 (.fresh 0 0 (!byT w)) }
section
variable {prog : Program} {w : World} {A : Around} {E : Value → Shared → Prop} {s : Shared}
theorem newS (a : Value) {Q₁ : Value → Shared → Prop} (h : Q₁ (.ref s.heap.objs.size) { s with heap := s.heap.push (newO w) }) :
    codeAny (model prog w) A (.call (.builtin "set.__new__") ⟨[.type "set", a], []⟩) (wants Q₁ E) s := by
  refine codeAny_of_tree ?_
  show wpAny _ A.in1 (do checkBuiltinCall "set.__new__" ⟨[.type "set", a], []⟩; again (.builtin "set.__new__" ⟨[.type "set", a], []⟩)) _ _ s
  refine wpAny_bind (wpAny_of_eq (F.newCall_set_1 a) (wpAny_pure ⟨plainId_quiet F.plain_set_new _, codeAny_builtin F.entry_set_new ?_⟩))
  rw [Around.under_plainId F.plain_set_new _]
  unfold Builtin.«set.__new__» Builtin.Frozenset.newClass
  have hsub := sub_set_self
  obtain ⟨hp, g, d, tk, os⟩ := s
  dsimp only at h ⊢
  wp_walk
  refine wpAny_askSetting (wpAny_pure ?_)
  dsimp only
  simp only [newObj]
  refine wpAny_bind (wpAny_alloc (wpAny_pure ?_))
  exact wpAny_pure h
set_option maxHeartbeats 3200000 in
theorem setList {l : Addr} {items : Array Value} {ns : List Int} {Q : Value → Shared → Prop} (hh : A.handled = none) (hl : s.heap.IsList l items) (hi : PyProof.Rows.IntsAre items.toList ns) (hb : items.size ≤ 3)
    (h : ∀ (h' : Heap) (tk : Nat), SetS prog w h' s.heap.objs.size ((List.range items.size).map fun i => ns.getD i 0) items.size (!byT w) →
      (∀ b o, b < s.heap.objs.size → s.heap.get? b = some o → h'.get? b = some o) → Q (.ref s.heap.objs.size) { s with heap := h', toks := tk }) :
    wpAny (model prog w) A (call (.type "set") [.ref l]) Q E s := by
  obtain ⟨c, tl, hmro⟩ := F.called_set.mro
  have hmade := F.called_set.made
  have hsub := F.called_set.sub
  refine wpAny_call (codeAny_of_tree ?_)
  show wpAny _ _ (callAny (.type "set") _) _ _ _
  refine wpAny_pure ⟨Code.quiet_builtin _ (by decide +kernel), codeAny_builtin F.entry_type_call ?_⟩
  rw [Around.under_plain (weight_type_call_type "set" [.ref l] []) rfl]
  have h1 := F.called_set.notType
  have h2 := F.called_set.canCreate
  have hct := F.typeCall_set_1 (.ref l)
  repeat (any_goals (first | assumption | wp_step))
  refine codeAny_mono (newS (.ref l) (E := E) (Q₁ := fun obj s₁ => obj = .ref s.heap.objs.size ∧ s₁ = { s with heap := s.heap.push (newO w) }) ⟨rfl, rfl⟩) fun r s₁ hr => ?_
  cases r with
  | error e => exact hr
  | ok fl =>
    cases fl with
    | ret obj =>
      obtain ⟨rfl, rfl⟩ := hr
      have hS : (s.heap.push (newO w)).get? s.heap.objs.size = some (newO w) := Heap.get?_push_size _ rfl
      have hT : Shared.TypeIs { s with heap := s.heap.push (newO w) } (.ref s.heap.objs.size) "set" := ⟨_, hS, rfl⟩
      have hli := F.called_set.init.lookup
      have hbi := F.called_set.init.bind (.ref s.heap.objs.size)
      repeat (any_goals (first | assumption | wp_step))
      refine codeAny_mono (codeAny_call_builtin (R := wants (fun r s₂ => r = .none ∧ ∃ h' tk, s₂ = { s with heap := h', toks := tk } ∧
          SetS prog w h' s.heap.objs.size ((List.range items.size).map fun i => ns.getD i 0) items.size (!byT w) ∧
          (∀ b o, b < s.heap.objs.size → s.heap.get? b = some o → h'.get? b = some o)) E) F.called_set.init.plain F.entry_set_init (check_set_init_1 hT ?_)) fun r₂ s₂ hr₂ => ?_
      · obtain ⟨ol, hol, hcl, nl, hdl⟩ := id hl
        obtain ⟨ocls, odict, odata, oslots⟩ := ol
        simp only at hcl hdl
        subst hcl; subst hdl
        have hol' : (s.heap.push (newO w)).get? l = some { cls := .type "list", dict := odict, data := .seq items nl, slots := oslots } := Heap.get?_push_of_some _ hol
        have a1 := F.sub_list_set
        have a2 := F.sub_list_frozenset
        have a3 : (Value.type "list" == Value.type "dict") = false := by decide
        have hl1 : (s.heap.push (newO w)).IsList l items := ⟨_, hol', rfl, nl, rfl⟩
        have hlS : l < s.heap.objs.size := Heap.lt_size hol
        have zS : (s.heap.push (newO w)).objs.size = s.heap.objs.size + 1 := Heap.size_push ..
        unfold Builtin.«set.__init__» noKeywords Builtin.Frozenset.updateFrom
        generalize hPI : pyIter = PI
        wp_walk
        subst hPI
        refine wpAny_pyIter_list hl1 ?_
        refine wpAny_bind (wpAny_runValue ?_)
        have b1 : l ≠ (s.heap.push (newO w)).objs.size := by rw [zS]; exact Nat.ne_of_lt (Nat.lt_succ_of_lt hlS)
        have b2 : s.heap.objs.size ∉ [(s.heap.push (newO w)).objs.size, l] := by
          rw [zS]
          simp only [List.mem_cons, List.not_mem_nil, or_false, not_or]
          exact ⟨Nat.ne_of_lt (Nat.lt_succ_self _), Nat.ne_of_gt hlS⟩
        have b3 : ∀ (i : Nat) (v : Value), items[i]? = some v → ∃ t, v = .int ((fun i => ns.getD i 0) i) t := fun i v hv =>
          PyProof.Rows.IntsAre.int_at hi i v (by rw [Array.getElem?_toList]; exact hv)
        refine loopS ((Walks.list (by simp [hh]) _ l b1 items).toS) s.heap.objs.size b2 (fun i => ns.getD i 0) b3 hb (!byT w) (items.size - 0) 0 _ (by omega) (Nat.zero_le _) ⟨⟨_, Heap.get?_push_size _ rfl, rfl, rfl⟩, (hl1.push _)⟩ ?hS0 ?hR
        case hS0 =>
          have hget : ((s.heap.push (newO w)).push { cls := .type "list_iterator", data := .fields #[.ref l, .int 0 0] }).get? s.heap.objs.size = some (newO w) := Heap.get?_push_of_some _ hS
          exact ⟨newO w, #[], 0, .fresh 0 0 (!byT w), hget, ⟨rfl, rfl, rfl⟩, rfl, (fun e he => by cases he), (fun e he => by cases he), List.nodup_nil, fun k => Iff.rfl, TOk.fresh _, Nat.le_refl _⟩
        case hR =>
          intro s' hm hS'
          obtain ⟨h', g', d', tk', os'⟩ := s'
          have eg : g' = s.gens := hm.gens
          have ed : d' = s.drawn := hm.drawn
          have eo : os' = s.os := hm.os
          subst eg; subst ed; subst eo
          show wpAny _ _ _ _ _ _
          refine wpAny_pure ?_
          show wpAny _ _ (ret Value.none) _ _ _
          refine wpAny_pure ⟨rfl, h', tk', rfl, hS', fun b o hb e => ?_⟩
          refine hm.heap b o ?_ (Heap.get?_push_of_some _ (Heap.get?_push_of_some _ e))
          rw [zS]
          simp only [List.mem_cons, List.not_mem_nil, or_false, not_or]
          exact ⟨Nat.ne_of_lt hb, Nat.ne_of_lt (Nat.lt_succ_of_lt hb)⟩
      · cases r₂ with
        | error e => exact hr₂
        | ok fl₂ =>
          cases fl₂ with
          | ret r =>
            obtain ⟨rfl, h', tk, rfl, hS', hk'⟩ := hr₂
            repeat (any_goals (first | assumption | wp_step))
            exact h _ _ hS' hk'
          | _ => exact hr₂.elim
    | _ => exact hr.elim
end
end Be

namespace Be
open PySem L2
theorem slot_sin : Slot "set_iterator" "__next__" "set_iterator.__next__" :=
  .of (owner := "set_iterator") (n := "__next__") (by rw [typeLookup_type, builtinLookup_eq_fast]; kernel_rfl) (by decide +kernel) (by decide +kernel) (by decide +kernel)
    (by first | exact .inl (by decide +kernel) | exact .inr (by decide +kernel)) (by rw [isSubtype_type]; kernel_rfl)
theorem entry_sin : entryFor table "set_iterator.__next__" = some Builtin.«set_iterator.__next__» := entryFor_of_fast (by kernel_rfl)
theorem args_sin (a : Value) : argsOk "set_iterator.__next__" ⟨[a], []⟩ := by unfold argsOk; kernel_rfl
theorem entry_sit : entryFor table "set.__iter__" = some Builtin.«frozenset.__iter__» :=
  entryFor_alias (id' := "frozenset.__iter__") (by kernel_rfl) rfl (by decide +kernel) (by kernel_rfl)
section
variable {prog : Program} {w : World} {A : Around} {E : Value → Shared → Prop} {s : Shared}
theorem iterS {a : Addr} {o : Obj} {es : Array (Int × Value)} {ep : Nat} {t : SetTable} {led : Bool} {Q : Value → Shared → Prop} (ho : s.heap.get? a = some o) (hex : o.ExactSet) (hd : o.data = .set es ep t) (T : TOk t es.size led) (hn : es.size ≤ 3)
    (h : Q (.ref s.heap.objs.size) { s with heap := s.heap.push { cls := .type "set_iterator", data := .fields #[.int 0 0, .int 0 0, .ref a, .int es.size 0, .int ep 0] } }) :
    wpAny (model prog w) A (pyIter (.ref a)) Q E s := by
  have hT : s.TypeIs (.ref a) "set" := ⟨o, ho, hex.1⟩
  have hf := T.fits (by omega)
  refine wpAny_pyIter_slot hT F.slot_set_iter (wpAny_call_entry F.slot_set_iter hT entry_sit ?_ (F.args_set_iter_1 _))
  unfold Builtin.«frozenset.__iter__» Builtin.Frozenset.slot0 slotArgs
  simp only [List.isEmpty_nil, Bool.not_true, Bool.false_eq_true, ↓reduceIte, bind_assoc, List.length_nil, bne_self_eq_false]
  unfold Builtin.Frozenset.addrOf Builtin.Frozenset.sizeOf
  refine wpAny_bind (wpAny_pure ?_)
  try dsimp only
  refine wpAny_bind (wpAny_pure ?_)
  refine wpAny_bind (wpAny_bind (wpAny_setEntries_of ho hd hf (wpAny_pure ?_)))
  unfold setDrawn
  refine wpAny_bind (wpAny_bind (wpAny_setState_of ho hd hf ?_))
  dsimp only
  unfold setsByText
  refine wpAny_bind (wpAny_bind (wpAny_askSetting (wpAny_pure (wpAny_pure ?_))))
  show wpAny _ _ (if (!byT w && (!t.plain && decide (es.size > 1))) = true then _ else _) _ _ _
  rw [T.plain, show (!byT w && (!true && decide (es.size > 1))) = false by simp, if_neg Bool.false_ne_true]
  refine wpAny_bind (wpAny_pure ?_)
  refine wpAny_bind (wpAny_setEpoch_of ho hd hf ?_)
  refine wpAny_bind (wpAny_newObj_type ?_ (by size_fits))
  exact wpAny_pure ⟨_, rfl, "set_iterator", _, ⟨_, Heap.get?_push_size _ rfl, rfl⟩, slot_sin.lookup, h⟩
/-- where the walk stands -/
def nxt (t : SetTable) : Nat → Nat
  | 0 => 0
  | i + 1 => t.place.getD i 0 + 1
/-- the order of the walk -/
def ordS (w : World) (a : Addr) (ep : Nat) (es : Array (Int × Value)) : Array (Int × Value) := if byT w = true then pickOrder (w.params.setOrder a ep) es else es
def StS (w : World) (I a : Addr) (o : Obj) (es : Array (Int × Value)) (ep : Nat) (t : SetTable) (i : Nat) (h : Heap) : Prop :=
  (∃ oI sl, h.get? I = some oI ∧ oI.cls = .type "set_iterator" ∧ oI.data = .fields #[.int ((sl : Nat) : Int) 0, .int ((i : Nat) : Int) 0, .ref a, .int es.size 0, .int ep 0] ∧ (byT w = false → sl = nxt t i)) ∧ h.get? a = some o
theorem ord_size (w : World) (a : Addr) (ep : Nat) (es : Array (Int × Value)) : (ordS w a ep es).size = es.size := by
  unfold ordS
  split
  · have h := (pick_perm (w.params.setOrder a ep) es.size 0 es.toList #[] (by simp)).length_eq
    unfold pickOrder
    rw [← Array.length_toList, h]
    simp
  · rfl
theorem nextS {a : Addr} {o : Obj} {es : Array (Int × Value)} {ep sl i : Nat} {t : SetTable} {Q : Option (Value × Nat) → Shared → Prop} (hoa : s.heap.get? a = some o) (hd : o.data = .set es ep t) (T : TOk t es.size (!byT w)) (hn : es.size ≤ 3) (hi : i ≤ es.size)
    (hsl : byT w = false → sl = nxt t i) (h1 : ∀ (h : i < (ordS w a ep es).size) m, (byT w = false → m = nxt t (i + 1)) → Q (some ((ordS w a ep es)[i].2, m)) s) (h2 : i = es.size → Q none s) :
    wpAny (model prog w) A (setNext a sl i ep) Q E s := by
  have hf := T.fits (by omega)
  have hz := ord_size w a ep es
  have fin : ∀ r : Option (Int × Value), r = (ordS w a ep es)[i]? → ∀ m, (byT w = false → i < es.size → m = nxt t (i + 1)) → Q (r.map fun e => (e.2, m)) s := fun r hr m hm => by
    by_cases hlt : i < es.size
    · rw [hr, Array.getElem?_eq_getElem (by omega)]
      exact h1 (by omega) m fun hb => hm hb hlt
    · rw [hr, Array.getElem?_eq_none (by omega)]
      exact h2 (by omega)
  unfold setNext
  refine wpAny_bind (wpAny_setState_of hoa hd hf ?_)
  dsimp only
  unfold setsByText
  refine wpAny_bind (wpAny_bind (wpAny_askSetting (wpAny_pure ?_)))
  show wpAny _ _ (if byT w = true then _ else _) _ _ _
  cases hb : byT w with
  | true =>
    rw [if_pos rfl, if_neg (by simp)]
    unfold setWalk
    refine wpAny_bind (wpAny_bind (wpAny_setState_of hoa hd hf ?_))
    dsimp only
    unfold setsByText
    refine wpAny_bind (wpAny_bind (wpAny_askSetting (wpAny_pure ?_)))
    show wpAny _ _ (if byT w = true then _ else _) _ _ _
    rw [hb, if_pos rfl]
    refine wpAny_bind (wpAny_askSetting (wpAny_pure (wpAny_pure ?_)))
    refine fin _ ?_ sl (fun z => by rw [hb] at z; cases z)
    unfold ordS
    rw [hb, if_pos rfl]
    rfl
  | false =>
    rw [if_neg Bool.false_ne_true]
    show wpAny _ _ (if (!t.plain && decide (es.size > 1)) = true then _ else _) _ _ _
    rw [T.plain, show (!true && decide (es.size > 1)) = false by simp, if_neg Bool.false_ne_true]
    have hled : t.led = true := by rw [T.led, hb]; rfl
    refine wpAny_bind ?_
    show wpAny _ _ (if (!t.led && !es.isEmpty) = true then _ else _) _ _ _
    rw [hled, show (!true && !es.isEmpty) = false by simp, if_neg Bool.false_ne_true]
    refine wpAny_pure (wpAny_pure ?_)
    have hbl : SetTable.below t.place sl = i := by
      rw [hsl hb]
      cases i with
      | zero => exact below_zero T.rise
      | succ i => exact below_next T.rise (by rw [T.size]; omega)
    rw [hbl]
    by_cases hlt : i < es.size
    · have hp : i < t.place.size := by rw [T.size]; exact hlt
      rw [Array.getElem?_eq_getElem hlt, Array.getElem?_eq_getElem hp]
      have he : (ordS w a ep es)[i]? = some es[i] := by
        unfold ordS
        rw [hb, if_neg Bool.false_ne_true, Array.getElem?_eq_getElem hlt]
      have := fin (some es[i]) he.symm (t.place[i] + 1) fun _ _ => by
        show _ = t.place.getD i 0 + 1
        rw [Array.getD_eq_getD_getElem?, Array.getElem?_eq_getElem hp]; rfl
      exact this
    · rw [Array.getElem?_eq_none (by omega)]
      exact h2 (by omega)
theorem itemS {I a : Addr} {o : Obj} {es : Array (Int × Value)} {ep : Nat} {t : SetTable} {i : Nat} {Q : Option Value → Shared → Prop} (hne : I ≠ a) (hd : o.data = .set es ep t) (T : TOk t es.size (!byT w)) (hn : es.size ≤ 3)
    (hst : StS w I a o es ep t i s.heap) (hi : i < (ordS w a ep es).size) (hi2 : i < es.size)
    (h : ∀ h', StS w I a o es ep t (i + 1) h' → Heap.SameBut I s.heap h' → Q (some (ordS w a ep es)[i].2) { s with heap := h' }) : wpAny (model prog w) A (pyNext (.ref I)) Q E s := by
  obtain ⟨⟨oI, sl, ho, hc, hdI, hsl⟩, hoa⟩ := hst
  have hf := T.fits (by omega)
  have hT : s.TypeIs (.ref I) "set_iterator" := ⟨oI, ho, hc⟩
  unfold pyNext
  refine wpAny_bind (wpAny_attempt (wpAny_callSpecial?_slot (name := Str.ofString "__next__") hT slot_sin (wpAny_call_entry slot_sin hT entry_sin ?_ (args_sin _))))
  unfold Builtin.«set_iterator.__next__» slotArgs
  simp only [List.isEmpty_nil, Bool.not_true, Bool.false_eq_true, ↓reduceIte, bind_assoc, List.length_nil, bne_self_eq_false]
  refine wpAny_bind (wpAny_pure ?_)
  try dsimp only
  refine wpAny_bind (wpAny_fieldsOf ho hdI ?_)
  try dsimp only
  refine wpAny_bind (wpAny_setEntries_of hoa hd hf ?_)
  try dsimp only
  rw [if_neg (by simp)]
  refine wpAny_bind ?_
  rw [Int.toNat_natCast, Int.toNat_natCast, Int.toNat_natCast]
  refine nextS hoa hd T hn (Nat.le_of_lt hi2) hsl (fun h1 m hm => ?_) fun z => by omega
  try dsimp only
  refine wpAny_bind (wpAny_setField ho hdI (by simp) ?_)
  have ho1 : (s.heap.update I (Obj.mapFields fun x => x.setIfInBounds 0 (rawInt ((m : Nat) : Int)))).get? I = some (Obj.mapFields (fun x => x.setIfInBounds 0 (rawInt ((m : Nat) : Int))) oI) := Heap.get?_update_self _ ho (Obj.isFreed_of_fields (Obj.data_mapFields hdI _))
  have hd1 := Obj.data_mapFields hdI fun x => x.setIfInBounds 0 (rawInt ((m : Nat) : Int))
  refine wpAny_bind (wpAny_setField ho1 hd1 (by simp) (wpAny_pure ⟨_, rfl, wpAny_pure (h _ ?_ ((Heap.SameBut.update ..).trans (Heap.SameBut.update ..)))⟩))
  refine ⟨⟨_, m, Heap.get?_update_self _ ho1 (Obj.isFreed_of_fields (Obj.data_mapFields hd1 _)), (Obj.cls_mapFields ..).trans ((Obj.cls_mapFields ..).trans hc), by rw [Obj.data_mapFields hd1]; simp [rawInt], hm⟩, ?_⟩
  exact (Heap.get?_update_other _ _ hne).trans ((Heap.get?_update_other _ _ hne).trans hoa)
theorem doneS {I a : Addr} {o : Obj} {es : Array (Int × Value)} {ep : Nat} {t : SetTable} {Q : Option Value → Shared → Prop} (hh : A.handled = none) (hne : I ≠ a) (hd : o.data = .set es ep t) (T : TOk t es.size (!byT w)) (hn : es.size ≤ 3)
    (hst : StS w I a o es ep t es.size s.heap) (h : ∀ h', Heap.ExtBut I s.heap h' → Q none { s with heap := h' }) : wpAny (model prog w) A (pyNext (.ref I)) Q E s := by
  obtain ⟨⟨oI, sl, ho, hc, hdI, hsl⟩, hoa⟩ := hst
  have hf := T.fits (by omega)
  have hT : s.TypeIs (.ref I) "set_iterator" := ⟨oI, ho, hc⟩
  unfold pyNext
  refine wpAny_bind (wpAny_attempt (wpAny_callSpecial?_slot (name := Str.ofString "__next__") hT slot_sin (wpAny_call_entry slot_sin hT entry_sin ?_ (args_sin _))))
  unfold Builtin.«set_iterator.__next__» slotArgs
  simp only [List.isEmpty_nil, Bool.not_true, Bool.false_eq_true, ↓reduceIte, bind_assoc, List.length_nil, bne_self_eq_false]
  refine wpAny_bind (wpAny_pure ?_)
  try dsimp only
  refine wpAny_bind (wpAny_fieldsOf ho hdI ?_)
  try dsimp only
  refine wpAny_bind (wpAny_setEntries_of hoa hd hf ?_)
  try dsimp only
  rw [if_neg (by simp)]
  refine wpAny_bind ?_
  rw [Int.toNat_natCast, Int.toNat_natCast, Int.toNat_natCast]
  have hz := ord_size w a ep es
  refine nextS hoa hd T hn (Nat.le_refl _) hsl (fun h1 m hm => by omega) fun _ => ?_
  try dsimp only
  refine wpAny_bind (wpAny_setField ho hdI (by simp) ?_)
  refine wpAny_bind ?_
  simp only [newExc, newTuple]
  refine wpAny_bind (wpAny_newObj_type ?_ (by size_fits))
  refine wpAny_bind (m := firstArgMember _ _) (wpAny_of_eq (a := Value.none) (by first | rfl | (simp only [firstArgMember]; rfl)) ?_)
  refine wpAny_newObj_type ?_ (by size_fits)
  simp only [raiseNew]
  refine wpAny_bind (wpAny_handled ?_)
  rw [show A.in1.handled = none from hh]
  refine wpAny_bind (wpAny_pure (wpAny_throw ?_))
  refine wpAny_bind (wpAny_isInstance (T := "StopIteration") (b := true) ⟨_, Heap.get?_push_size _ rfl, rfl⟩ isSubtype_stop ?_)
  exact wpAny_pure (h _ (((Heap.SameBut.update ..).extBut.push _).push _))
end
end Be

namespace Be
open PySem L2
theorem slot_sii : Slot "set_iterator" "__iter__" "set_iterator.__iter__" :=
  .of (owner := "set_iterator") (n := "__iter__") (by rw [typeLookup_type, builtinLookup_eq_fast]; kernel_rfl) (by decide +kernel) (by decide +kernel) (by decide +kernel)
    (by first | exact .inl (by decide +kernel) | exact .inr (by decide +kernel)) (by rw [isSubtype_type]; kernel_rfl)
theorem entry_sii : entryFor table "set_iterator.__iter__" = some Builtin.«dict_keyiterator.__iter__» :=
  entryFor_alias (id' := "dict_keyiterator.__iter__") (by kernel_rfl) rfl (by decide +kernel) (by kernel_rfl)
theorem args_sii (a : Value) : argsOk "set_iterator.__iter__" ⟨[a], []⟩ := by unfold argsOk; kernel_rfl
section
variable {prog : Program} {w : World} {A : Around} {E : Value → Shared → Prop} {s : Shared}
theorem walkS (hh : A.handled = none) {I a : Addr} {o : Obj} {es : Array (Int × Value)} {ep : Nat} {t : SetTable} (hne : I ≠ a) (hd : o.data = .set es ep t) (T : TOk t es.size (!byT w)) (hn : es.size ≤ 3) :
    Walks prog w A I [I, a] [I] es.size (fun i v => ∃ e, (ordS w a ep es)[i]? = some e ∧ v = e.2) (fun i h => StS w I a o es ep t i h) where
  sub := fun b hb => by simp at hb; simp [hb]
  frame := fun i h h' st hk => by
    obtain ⟨⟨oI, sl, ho, rest⟩, hoa⟩ := st
    exact ⟨⟨oI, sl, hk I (by simp) _ ho, rest⟩, hk a (by simp) _ hoa⟩
  item := fun i s Q E hi st hQ => by
    have hz := ord_size w a ep es
    have hi' : i < (ordS w a ep es).size := by omega
    refine itemS hne hd T hn st hi' hi fun h' st' sb => ?_
    exact hQ _ h' s.toks ⟨_, Array.getElem?_eq_getElem hi', rfl⟩ st' fun b o hb e => sb.extBut b o (fun h => hb (by simp [h])) e
  done := fun s Q E st hQ => doneS hh hne hd T hn st fun h' he => hQ h' s.toks fun b o hb e => he b o (fun h => hb (by simp [h])) e
  self := fun i s Q E st hQ => by
    obtain ⟨⟨oI, sl, ho, hc, rest⟩, hoa⟩ := st
    have hT : s.TypeIs (.ref I) "set_iterator" := ⟨oI, ho, hc⟩
    refine wpAny_pyIter_slot hT slot_sii (wpAny_call_entry slot_sii hT entry_sii ?_ (args_sii _))
    show wpAny _ _ (ret (.ref I)) _ _ s
    exact wpAny_pure ⟨_, rfl, "set_iterator", _, hT, slot_sin.lookup, hQ⟩
open PyProof.Rows in
theorem ints_map : ∀ l : List (Int × Value), (∀ e ∈ l, ∃ k u, e.2 = Value.int k u) → IntsAre (l.map (·.2)) (l.map fun e => intOf e.2)
  | [], _ => .nil
  | e :: l, h => by
    obtain ⟨k, u, ek⟩ := h e (List.mem_cons_self ..)
    rw [List.map_cons, List.map_cons, ek]
    exact .cons k u (ints_map l fun x hx => h x (List.mem_cons_of_mem _ hx))
end
end Be

namespace Be
open PySem L2
section
variable {prog : Program} {w : World} {A : Around} {E : Value → Shared → Prop} {s : Shared}
theorem ord_perm (w : World) (a : Addr) (ep : Nat) (es : Array (Int × Value)) : (ordS w a ep es).toList.Perm es.toList := by
  unfold ordS
  split
  · have h := pick_perm (w.params.setOrder a ep) es.size 0 es.toList #[] (by simp)
    unfold pickOrder
    simpa using h
  · exact List.Perm.refl _
/-- a set's members as a list, in whatever order -/
theorem collectS (hh : A.handled = none) {a : Addr} {ns : List Int} {n : Nat} {Q : List Value → Shared → Prop} (hS : SetS prog w s.heap a ns n (!byT w)) (hn : n ≤ 3)
    (h : ∀ (vs : List Value) (ks : List Int) (h' : Heap) (tk : Nat), PyProof.Rows.IntsAre vs ks → ks.Nodup → (∀ k, k ∈ ks ↔ k ∈ ns) → vs.length ≤ 3 → (∀ b o, s.heap.get? b = some o → h'.get? b = some o) → Q vs { s with heap := h', toks := tk }) :
    wpAny (model prog w) A (collect (.ref a)) Q E s := by
  obtain ⟨o, es, ep, t, ho, hex, hd, hel, hint, hnd, hmem, T, hsz⟩ := hS
  have hn3 : es.size ≤ 3 := by omega
  have hT : s.TypeIs (.ref a) "set" := ⟨o, ho, hex.1⟩
  have haS : a < s.heap.objs.size := Heap.lt_size ho
  unfold collect
  refine wpAny_bind (wpAny_runValue (codeAny_builtin F.entry_proto_collect ?_))
  rw [Around.under_plainId F.plain_proto_collect _]
  show wpAny _ A.in1 (newList [] >>= fun l => again (.builtin "list.__iadd__" ⟨[l, .ref a], []⟩)) _ _ s
  refine wpAny_bind (wpAny_newObj_type ?_)
  refine wpAny_pure ⟨plainId_quiet F.plain_list_iadd _, codeAny_builtin F.entry_list_iadd ?_⟩
  rw [Around.under_plainId F.plain_list_iadd _]
  show wpAny _ A.in1 (Builtin.List.listExtendWith (.ref s.heap.objs.size) (.ref a) (.ref s.heap.objs.size)) _ _ _
  unfold Builtin.List.listExtendWith
  have ho1 : (s.heap.push { cls := .type "list", data := .seq ([] : List Value).toArray }).get? a = some o := Heap.get?_push_of_some _ ho
  have hT1 : Shared.TypeIs { s with heap := s.heap.push { cls := .type "list", data := .seq ([] : List Value).toArray } } (.ref a) "set" := ⟨o, ho1, hex.1⟩
  have hne : s.heap.objs.size ≠ a := Nat.ne_of_gt haS
  have h1 : Builtin.List.listSameRef (.ref s.heap.objs.size) (.ref a) = false := by simp [Builtin.List.listSameRef, hne]
  refine wpAny_bind (wpAny_typeOf hT1 ?_)
  rw [if_neg (by rw [h1]; decide)]
  refine wpAny_bind (iterS ho1 hex hd T hn3 ?_)
  refine wpAny_bind (wpAny_holding ?_)
  unfold Builtin.List.listLengthHint
  have zL : (s.heap.push { cls := .type "list", data := .seq ([] : List Value).toArray }).objs.size = s.heap.objs.size + 1 := Heap.size_push ..
  generalize hX : ({ cls := .type "set_iterator", data := .fields #[.int 0 0, .int 0 0, .ref a, .int es.size 0, .int ep 0] } : Obj) = oI
  have ho2 : ((s.heap.push { cls := .type "list", data := .seq ([] : List Value).toArray }).push oI).get? a = some o := Heap.get?_push_of_some _ ho1
  have hT2 : Shared.TypeIs { s with heap := (s.heap.push { cls := .type "list", data := .seq ([] : List Value).toArray }).push oI } (.ref a) "set" := ⟨o, ho2, hex.1⟩
  refine wpAny_bind (wpAny_specialOf hT2 F.slot_set_len.lookup ?_)
  (generalize hid : ("set.__len__" : String) = id0; wp_delta; rw [show splitId id0 = some ("set", "__len__") from by subst hid; decide +kernel]; subst hid)
  refine wpAny_bind (wpAny_isInstance (b := true) hT2 sub_set_self ?_)
  show wpAny _ A.in1 (typeOf (.ref a) >>= _) _ _ _
  refine wpAny_bind (wpAny_typeOf hT2 ?_)
  refine wpAny_pure ?_
  show wpAny _ A.in1 (rule "list.extend.makes-room" >>= fun _ => Builtin.List.listTouch (.ref s.heap.objs.size) >>= fun _ =>
    again (.builtin "list.extend.loop" ⟨[.ref s.heap.objs.size, .ref _, .ref s.heap.objs.size], []⟩)) _ _ _
  refine wpAny_bind (wpAny_rule ?_)
  have hS1 : ((s.heap.push { cls := .type "list", data := .seq ([] : List Value).toArray }).push oI).get? s.heap.objs.size = some { cls := .type "list", data := .seq ([] : List Value).toArray } := Heap.get?_push_of_some _ (Heap.get?_push_size _ rfl)
  refine wpAny_bind ?_
  show wpAny _ A.in1 (updateSeq s.heap.objs.size (·.push .none) >>= fun _ => updateSeq s.heap.objs.size (·.pop)) _ _ _
  refine wpAny_bind (wpAny_updateSeq hS1 rfl ?_)
  have hS2 := Heap.get?_update_self (Obj.mapSeq (·.push Value.none)) hS1 rfl
  refine wpAny_updateSeq hS2 rfl ?_
  have hS3 := Heap.get?_update_self (Obj.mapSeq (·.pop)) hS2 rfl
  have oth : ∀ b o, b ≠ s.heap.objs.size → ((s.heap.push { cls := .type "list", data := .seq ([] : List Value).toArray }).push oI).get? b = some o →
      ((((s.heap.push { cls := .type "list", data := .seq ([] : List Value).toArray }).push oI).update s.heap.objs.size (Obj.mapSeq (·.push Value.none))).update s.heap.objs.size (Obj.mapSeq (·.pop))).get? b = some o :=
    fun b o hb e => (Heap.get?_update_other _ _ (Ne.symm hb)).trans ((Heap.get?_update_other _ _ (Ne.symm hb)).trans e)
  have eI : ((s.heap.push { cls := .type "list", data := .seq ([] : List Value).toArray }).push oI).get? (s.heap.push { cls := .type "list", data := .seq ([] : List Value).toArray }).objs.size = some oI := Heap.get?_push_size _ (by rw [← hX]; rfl)
  have nIS : (s.heap.push { cls := .type "list", data := .seq ([] : List Value).toArray }).objs.size ≠ s.heap.objs.size := by rw [zL]; exact Nat.ne_of_gt (Nat.lt_succ_self _)
  have nIa : (s.heap.push { cls := .type "list", data := .seq ([] : List Value).toArray }).objs.size ≠ a := by rw [zL]; exact Nat.ne_of_gt (Nat.lt_succ_of_lt haS)
  have eI3 := oth _ _ nIS eI
  have ea3 := oth _ _ (Ne.symm hne) ho2
  have W := walkS (prog := prog) (A := A.in1.in1) (w := w) (by simp [hh]) nIa hd T hn3
  have hSf : s.heap.objs.size ∉ [(s.heap.push { cls := .type "list", data := .seq ([] : List Value).toArray }).objs.size, a] := by
    simp only [List.mem_cons, List.not_mem_nil, or_false, not_or]
    exact ⟨Ne.symm nIS, hne⟩
  refine wpAny_pure ⟨plainId_quiet F.plain_extend_loop _, codeAny_extend_loopS (Walks.of_in1 W).toS (by show es.size ≤ sizeLine; exact sz_le (by omega)) s.heap.objs.size hSf _ es.size 0 _ _ _ rfl (Nat.zero_le _) ⟨⟨oI, 0, eI3, by rw [← hX], by rw [← hX]; rfl, fun _ => rfl⟩, ea3⟩ hS3 (ItemsOf.nil _) fun s' acc' c' hm hS' hacc => ?_⟩
  show wpAny _ A (load s.heap.objs.size >>= _) _ _ s'
  refine wpAny_bind (wpAny_load hS' ?_)
  refine wpAny_pure ?_
  have hp := ord_perm w a ep es
  have hz := ord_size w a ep es
  have ev : acc'.toList = (ordS w a ep es).toList.map (·.2) := by
    obtain ⟨q1, q2⟩ := hacc
    apply List.ext_getElem?
    intro j
    rw [Array.getElem?_toList, List.getElem?_map, Array.getElem?_toList]
    by_cases hj : j < acc'.size
    · have e1 : acc'[j]? = some acc'[j] := Array.getElem?_eq_getElem hj
      obtain ⟨e, e2, e3⟩ := q2 j _ e1
      rw [e1, e2, e3]; rfl
    · rw [Array.getElem?_eq_none (by omega), Array.getElem?_eq_none (by omega)]; rfl
  have hin : ∀ e ∈ (ordS w a ep es).toList, ∃ k u, e.2 = Value.int k u := fun e he => hint e (hp.mem_iff.mp he)
  have hks := hp.map fun e => intOf e.2
  obtain ⟨h', g', d', tk', os'⟩ := s'
  have eg : g' = s.gens := hm.gens
  have ed : d' = s.drawn := hm.drawn
  have eo : os' = s.os := hm.os
  subst eg; subst ed; subst eo
  rw [ev]
  refine h _ ((ordS w a ep es).toList.map fun e => intOf e.2) h' tk' (ints_map _ hin) (hks.nodup_iff.mpr hnd) (fun k => by rw [hks.mem_iff]; exact hmem k) (by rw [List.length_map, Array.length_toList]; omega) fun b o hb => ?_
  have hlt : b < s.heap.objs.size := Heap.lt_size hb
  refine hm.heap b o ?_ (oth b o (Nat.ne_of_lt hlt) (Heap.get?_push_of_some _ (Heap.get?_push_of_some _ hb)))
  simp only [List.mem_cons, List.not_mem_nil, or_false, not_or]
  exact ⟨Nat.ne_of_lt hlt, by rw [zL]; exact Nat.ne_of_lt (Nat.lt_succ_of_lt hlt)⟩
end
end Be

namespace Be
open PySem L2 PyProof.Rows
section
variable {prog : Program} {w : World} {A : Around} {E : Value → Shared → Prop} {s : Shared}
theorem sortSet (hh : A.handled = none) {a : Addr} {ns : List Int} {n : Nat} {Q : Value → Shared → Prop} (hS : SetS prog w s.heap a ns n (!byT w)) (hn : n ≤ 3)
    (h : ∀ (out : Array Value) (ns' : List Int) (vs : List Value) (h1 : Heap) (tk : Nat), IntsAre out.toList ns' → ns'.Pairwise (· < ·) → (∀ k, k ∈ ns' ↔ k ∈ ns) → ns'.length ≤ 3 → (∀ b o, s.heap.get? b = some o → h1.get? b = some o) →
      Q (.ref h1.objs.size) { s with heap := sortedHeap (h1.push (seqObj "list" vs.toArray 0)) h1.objs.size vs out, toks := tk }) :
    wpAny (model prog w) A (call (.builtin "sorted") [.ref a]) Q E s := by
  refine Calls.call_function_entry kind_sorted plain_sorted entry_sorted (args_sorted1 _) ?_
  unfold Builtin.«sorted»
  refine wpAny_bind (m := checkCount "sorted" 1 1 _) (wpAny_pure ?_)
  refine wpAny_bind (collectS (by simp [hh]) hS hn fun vs ks h1 tk hI hnd hmem hlen hk => ?_)
  refine wpAny_bind (wpAny_newList ?_)
  have hoL : (h1.push (seqObj "list" vs.toArray 0)).get? h1.objs.size = some (seqObj "list" vs.toArray 0) := Heap.get?_push_size _ rfl
  show wpAny _ _ _ _ _ { s with heap := h1.push (seqObj "list" vs.toArray 0), toks := tk }
  refine wpAny_bind (wpAny_holding (wpAny_call_entry slot_list_sort ⟨_, hoL, rfl⟩ entry_list_sort (list_sort_tree hoL hI (by omega) fun out ns' a1 a2 a3 => ⟨_, rfl, ?_⟩) (args_list_sort _)))
  have hnd' : ns'.Nodup := a2.nodup_iff.mpr hnd
  have hlt : ns'.Pairwise (· < ·) := (a3.and hnd').imp fun {x y} ⟨q1, q2⟩ => by omega
  have hln : ns'.length ≤ 3 := by rw [a2.length_eq, ← hI.length]; exact hlen
  exact wpAny_pure ⟨_, rfl, h out ns' vs h1 tk a1 hlt (fun k => by rw [a2.mem_iff]; exact hmem k) hln hk⟩
end
end Be

namespace Be
open PySem L2
section
variable {X : Cx}
/-- sorted(set(xs)), xs a list of few ints: they, each once, rising -/
def tSortSet (K : PySem.W.Frag) (te : TE) : TE := fun σ H Q => te σ H fun x H1 => ∃ (a : Addr) (ns : List Int), x = .ref a ∧ SqL K H1 a (ns.map V.int) ∧ ns.length ≤ 3 ∧
  ∀ (ys : List Int) (p : Addr), ys.Pairwise (· < ·) → (∀ y, y ∈ ys ↔ y ∈ ns) → H1 p = none → Q (.ref p) (upd H1 p (.lst (ys.map V.int)))
theorem boot_set : bootBuiltins "set" = some (.type "set") := by decide +kernel
theorem getD_range (ns : List Int) : (List.range ns.length).map (fun i => ns.getD i 0) = ns := by
  apply List.ext_getElem?
  intro i
  by_cases h : i < ns.length
  · rw [List.getElem?_map, List.getElem?_range h, List.getElem?_eq_getElem h, Option.map_some, List.getD_eq_getElem?_getD, List.getElem?_eq_getElem h]; rfl
  · rw [List.getElem?_eq_none (by simp; omega), List.getElem?_eq_none (by omega)]
theorem pe_sortset {e : Expr} {te : TE} {p1 p2 p3 p4 : Pos} (hc : X.calm = true) (he : PE X e te) (g1 : Gl X "sorted") (m1 : X.mg "sorted" = none) (g2 : Gl X "set") (m2 : X.mg "set" = none)
    (hs : starEach [.Call (.Name "set" p2) [e] [] p3] X.env = [(false, eval (.Call (.Name "set" p2) [e] [] p3) X.env)] := by rfl) (hs2 : starEach [e] X.env = [(false, eval e X.env)] := by rfl) :
    PE X (.Call (.Name "sorted" p1) [.Call (.Name "set" p2) [e] [] p3] [] p4) (tSortSet X.K te) := by
  intro pins s σ H Q I h
  have hh := I.ok.hd hc
  refine wpAny_Call_Name_kw (ld_blt I g1 m1 PyProof.Rows.boot_sorted ?_)
  refine PyProof.Rows.callWith_builtin1 ?_ hs rfl
  rw [hs]
  show wpAny _ _ (spliced [(false, eval (.Call (.Name "set" p2) [e] [] p3) X.env)]) _ _ s
  refine Calls.spliced_cons ?_
  refine wpAny_Call_Name_kw (ld_blt I g2 m2 boot_set ?_)
  refine PyProof.Rows.callWith_type1 ?_ hs2 rfl
  rw [hs2]
  show wpAny _ _ (spliced [(false, eval e X.env)]) _ _ s
  refine Calls.spliced_cons (thn (he pins s σ H _ I h) fun u s1 ⟨x, H1, I1, r1, q1⟩ => ?_)
  refine Calls.spliced_nil ?_
  obtain ⟨a, ns, rfl, hl, hlen, q⟩ := q1
  obtain ⟨its, rv, hlist, _⟩ := I1.list hl
  cases r1
  have hi := rv.ints
  have hil : its.length = ns.length := hi.length
  have hi' : PyProof.Rows.IntsAre its.toArray.toList ns := by simpa using hi
  refine setList hh hlist.isList hi' (by simp; omega) fun h' tk hS hk => ?_
  refine Calls.spliced_nil ?_
  have hz : its.toArray.size = ns.length := by simp [hil]
  rw [hz, getD_range] at hS
  refine sortSet (s := { s1 with heap := h', toks := tk }) hh hS hlen fun out ns' vs h1 tk1 hi1 hp hm hln hk1 => ?_
  have hset : s1.heap.objs.size < h1.objs.size := by
    obtain ⟨o, es, ep, t, ho, _⟩ := hS
    exact Heap.lt_size (hk1 _ _ ho)
  have hoL : (h1.push (PyProof.Rows.seqObj "list" vs.toArray 0)).get? h1.objs.size = some (PyProof.Rows.seqObj "list" vs.toArray 0) := Heap.get?_push_size _ rfl
  obtain ⟨ep, he'⟩ := PyProof.Rows.sortedHeap_at (vs := vs) (out := out) hoL
  have hl2 : (ns'.map V.int).length ≤ sizeLine := by rw [List.length_map]; exact sz_le (by omega)
  refine ⟨.ref _, upd H1 h1.objs.size (.lst (ns'.map V.int)), I1.laid (t' := tk1) (fun b o hb => ?_) (Nat.le_of_lt hset) ⟨hl2, out.toList, ep, vals_of_ints hi1, he'⟩, rfl, q ns' _ hp hm (I1.hok.fresh (Nat.le_of_lt hset))⟩
  have hb1 := hk1 b o (hk b o (Heap.lt_size hb) hb)
  have hlt : b < h1.objs.size := Heap.lt_size hb1
  rw [PyProof.Rows.sortedHeap_old (Nat.ne_of_lt hlt) (Heap.lt_size (Heap.get?_push_of_some _ hb1))]
  exact Heap.get?_push_of_some _ hb1
/-- a text times a number -/
theorem op_repS : OpR X (binaryOp .Mult) (fun x y H Q => ∃ a k, x = .str a ∧ y = .int k ∧ MulOk a k ∧ Q (.str (Txt.mul a k)) H) := by
  intro pins s σ H x y v u Q I rx ry h
  obtain ⟨a, k, rfl, rfl, hok, q⟩ := h
  obtain ⟨t, rfl⟩ := rx
  obtain ⟨t', rfl⟩ := ry
  exact PySem.SB.mul hok fun t' tk => ⟨.str (Txt.mul a k), H, I.tok _, ⟨_, rfl⟩, q⟩
end
end Be

namespace Be
open PySem L2
theorem rg_any {j : Nat} {c : Int} (hj : j ≤ 1000) (hc1 : 1 ≤ c) (hc2 : c ≤ 2000) : ∃ n : Nat, RgC 0 (j : Int) c n ∧ ∀ i : Nat, i < n → 0 ≤ 0 + (i : Int) * c ∧ 0 + (i : Int) * c < (j : Int) := by
  by_cases h0 : j = 0
  · subst h0
    have hs : Builtin.Range.rangeSize 0 ((0 : Nat) : Int) c = 0 := by
      unfold Builtin.Range.rangeSize
      rw [if_pos (by omega), if_neg (by omega)]
    refine ⟨0, ⟨by omega, by omega, ?_, by rw [hs]; rfl⟩, fun i hi => by omega⟩
    unfold Builtin.Range.small
    rw [hs]
    simp only [Builtin.Range.rangeFitsLong, Bool.and_eq_true, Bool.or_eq_true, decide_eq_true_eq, beq_iff_eq, show c > 0 by omega, if_true]
    omega
  · have hs : Builtin.Range.rangeSize 0 (j : Int) c = ((j : Int) - 0 - 1) / c + 1 := by
      unfold Builtin.Range.rangeSize
      rw [if_pos (by omega), if_pos (by omega)]
    have hd0 : 0 ≤ ((j : Int) - 0 - 1) / c := Int.ediv_nonneg (by omega) (by omega)
    have hd1 : ((j : Int) - 0 - 1) / c ≤ (j : Int) - 0 - 1 := Int.ediv_le_self _ (by omega)
    refine ⟨(((j : Int) - 0 - 1) / c + 1).toNat, ⟨by omega, by omega, ?_, by rw [hs]; omega⟩, fun i hi => ?_⟩
    · unfold Builtin.Range.small
      rw [hs]
      simp only [Builtin.Range.rangeFitsLong, Bool.and_eq_true, Bool.or_eq_true, decide_eq_true_eq, beq_iff_eq, show c > 0 by omega, if_true]
      omega
    · have h1 : (i : Int) ≤ ((j : Int) - 0 - 1) / c := by omega
      have h2 : (i : Int) * c ≤ (j : Int) - 0 - 1 := (Int.le_ediv_iff_mul_le (by omega)).mp h1
      have h3 : (0 : Int) ≤ (i : Int) * c := Int.mul_nonneg (by omega) (by omega)
      omega
theorem mir1 : ∀ n, mirrors.cnt n 1 = 0
  | 0 => rfl
  | 1 => rfl
  | n + 2 => by
    show ([1, 1, 1, 1].map (mirrors.cnt n)).sum = 0
    simp [mir1 n]
theorem mir0 : ∀ n, mirrors.cnt n 0 = 2 ^ ((n + 1) / 2)
  | 0 => rfl
  | 1 => rfl
  | n + 2 => by
    show ([0, 1, 1, 0].map (mirrors.cnt n)).sum = _
    have e : (n + 2 + 1) / 2 = (n + 1) / 2 + 1 := by omega
    simp [mir1 n, mir0 n, e, Nat.pow_succ]
    omega
theorem lex_max : ∀ (w : List Nat) (n : Nat), w.length = n → (∀ c ∈ w, c ≤ 98) → ¬ List.replicate n 98 < w
  | [], n, h, _ => by
    rw [← h]; exact fun z => by cases z
  | c :: w, n, h, hc => by
    obtain ⟨m, rfl⟩ : ∃ m, n = m + 1 := ⟨w.length, by rw [← h]; rfl⟩
    rw [List.replicate_succ, List.cons_lt_cons_iff]
    have h1 := hc c (List.mem_cons_self ..)
    rintro (z | ⟨_, z⟩)
    · omega
    · exact lex_max w m (by rw [List.length_cons] at h; omega) (fun d hd => hc d (List.mem_cons_of_mem _ hd)) z
theorem mir_last : (pw mirrors 16 [])[255]? = some (List.replicate 16 98) := by
  have hov : ∀ w ∈ pw mirrors 16 [], w.length = 16 ∧ ∀ c ∈ w, c ≤ 98 := fun w hw => by
    obtain ⟨h1, h2, _⟩ := pw_mem.mp hw
    refine ⟨by simpa using h1, fun c hc => ?_⟩
    have h3 := h2 c hc
    rw [show mirrors.L = [97, 98] by decide +kernel] at h3
    simp at h3
    omega
  have mem : List.replicate 16 98 ∈ pw mirrors 16 [] := pw_mem.mpr ⟨by simp, by decide +kernel, by decide +kernel⟩
  obtain ⟨i, hi⟩ := List.mem_iff_getElem?.mp mem
  have hl : (pw mirrors 16 []).length = 256 := by rw [len_pw ok_mirrors, mir0]
  obtain ⟨hil, ei⟩ := List.getElem?_eq_some_iff.mp hi
  by_cases h : i = 255
  · rw [← h]; exact hi
  · have h1 : i + 1 < (pw mirrors 16 []).length := by omega
    have hp := List.pairwise_iff_getElem.mp (pw_up ok_mirrors.let_ 16 []) i (i + 1) hil h1 (by omega)
    rw [ei] at hp
    obtain ⟨a1, a2⟩ := hov _ (List.getElem_mem h1)
    exact absurd hp (lex_max _ 16 a1 a2)
theorem mir_1 : (pw mirrors 4 [])[1]? = some [97, 98, 98, 97] := by decide +kernel
theorem mir_0 : (pw mirrors 0 [])[0]? = some [] := by decide +kernel

section
variable {P : Program} {w : World} {K : PySem.W.Frag} {mg : Str → Option Value} {base : Heap}
def spLaw (K : PySem.W.Frag) : Sp := fun vs H Q _ => ∃ (a : Addr) (ns : List Int), vs = [.ref a] ∧ SqL K H a (ns.map V.int) ∧ ns.length ≤ 63 ∧ ∀ H', Q (.bl true) H'
set_option maxHeartbeats 8000000 in
theorem ok_law {f fHM fWb fNo fMa fLt fCp fVa fCe fTx fLh fLe fDr : Addr} {fd fdHM fdWb fdNo fdMa fdLt fdCp fdVa fdCe fdTx fdLh fdLe fdDr : FuncData} (D : Def K mg "law" (top 47) ["_law_script"] f fd) (T : BI mg) (Tsorted : mg "sorted" = none) (Tset : mg "set" = none) (Tmin : mg "min" = none)
    (DHM : Def K mg "how_many" (top 32) ["machine", "long"] fHM fdHM) (GHM : FnOk P w K mg base CX0 7 fHM fdHM ["machine", "long"] spHowMany)
    (DWb : Def K mg "word_by" (top 33) ["machine", "long", "number"] fWb fdWb) (GWb : FnOk P w K mg base CX0 8 fWb fdWb ["machine", "long", "number"] spWordBy)
    (DNo : Def K mg "number_of" (top 34) ["machine", "word"] fNo fdNo) (GNo : FnOk P w K mg base CX0 8 fNo fdNo ["machine", "word"] spNumberOf)
    (DMa : Def K mg "_law_machine" (top 39) ["_law_script", "_law_by", "_law_letters_here", "_law_most"] fMa fdMa) (GMa : FnOk P w K mg base CX0 3 fMa fdMa ["_law_script", "_law_by", "_law_letters_here", "_law_most"] (spMachine K))
    (DLt : Def K mg "_law_letters" (top 40) ["_law_script"] fLt fdLt) (GLt : FnOk P w K mg base CX0 3 fLt fdLt ["_law_script"] (spLetters K))
    (DCp : Def K mg "_law_copy" (top 41) ["_law_machine_here"] fCp fdCp) (GCp : FnOk P w K mg base CX0 1 fCp fdCp ["_law_machine_here"] spCopy)
    (DVa : Def K mg "_law_value" (top 38) ["_law_cell", "_law_turn"] fVa fdVa) (GVa : FnOk P w K mg base CX0 2 fVa fdVa ["_law_cell", "_law_turn"] spValue)
    (DCe : Def K mg "_law_cell_at" (top 36) ["_law_script", "_law_k"] fCe fdCe) (GCe : FnOk P w K mg base CX0 1 fCe fdCe ["_law_script", "_law_k"] (spCell K))
    (DTx : Def K mg "_law_texts" (top 43) ["_law_letters_here", "_law_long"] fTx fdTx) (GTx : FnOk P w K mg base CX0 1 fTx fdTx ["_law_letters_here", "_law_long"] spTextsX)
    (DLh : Def K mg "_law_has" (top 42) ["_law_machine_here", "_law_word", "_law_state"] fLh fdLh) (GLh : FnOk P w K mg base CX0 1 fLh fdLh ["_law_machine_here", "_law_word", "_law_state"] spLHas)
    (DLe : Def K mg "_law_lesser" (top 46) ["_law_machine_here", "_law_word"] fLe fdLe) (GLe : FnOk P w K mg base CX0 12 fLe fdLe ["_law_machine_here", "_law_word"] (spLesser 10))
    (DDr : Def K mg "_law_drawn" (top 44) ["_law_script", "_law_by", "_law_letters_here", "_law_most"] fDr fdDr) (GDr : FnOk P w K mg base CX0 3 fDr fdDr ["_law_script", "_law_by", "_law_letters_here", "_law_most"] (spDrawn K)) : FnOk P w K mg base CX0 13 f fd ["_law_script"] (spLaw K) := by
  refine D.F.ok scLaw (fun vs H Q E h => ?_) (fun cdv A outer s H vs Q E hr h => ?_)
  · obtain ⟨a, ns, rfl, _⟩ := h; rfl
  · obtain ⟨a, ns, rfl, hS, hlen, kk⟩ := h
    obtain ⟨tA, hA, rA⟩ := blk_A (P := P) (w := w) (base := base) (cdv := cdv) (outer := outer) (Hx := H) (E := E) hr T DHM GHM DWb GWb DNo GNo DMa GMa DLt GLt DCp GCp DVa GVa DCe GCe DTx GTx DLh GLh DLe GLe DDr GDr
    obtain ⟨tB, hB, rB⟩ := blk_B (P := P) (w := w) (base := base) (cdv := cdv) (outer := outer) (Hx := H) (E := E) hr T DHM GHM DWb GWb DNo GNo DMa GMa DLt GLt DCp GCp DVa GVa DCe GCe DTx GTx DLh GLh DLe GLe DDr GDr
    refine' ⟨_, pss_cons (ps_set (i := 0) scLaw.nd rfl (Or.inl rfl) (pe_slice sl_list (pv 0) po_none (po_some pe_int))) (pss_cons (ps_set (i := 1) scLaw.nd rfl (Or.inl rfl) (pe_call GLt (hr.mono (by decide)) (by rfl) DLt.m DLt.F.kp DLt.b .nil pass0 (pa_cons (pv 0) pa_nil))) (pss_cons (ps_for PassesOwn.never rfl (pi_range2 (by rfl) T.range (pa_cons pe_int (pa_cons (pe_callB (call_max2 rfl) (by rfl) T.max (by decide +kernel) (pa_cons pe_int (pa_cons (pe_callB (call_min2 rfl) (by rfl) Tmin (by decide +kernel) (pa_cons pe_int (pa_cons (pe_callB call_len_seq (by rfl) T.len PySem.boot_len (pa_cons (pv 0) pa_nil)) pa_nil))) pa_nil))) pa_nil))) (pg_name (i := 2) scLaw.nd rfl (Or.inl rfl))
        (pss_cons (ps_set (i := 3) scLaw.nd rfl (Or.inr rfl) (pe_call GMa (hr.mono (by decide)) (by rfl) DMa.m DMa.F.kp DMa.b .nil pass0 (pa_cons (pv 0) (pa_cons (pv 2) (pa_cons (pv 1) (pa_cons pe_int pa_nil))))))
      (pss_cons (ps_par (by rfl) scLaw.nd (i := 4) (j := 5) rfl rfl (by decide) rfl rfl (pa_cons (pe_call GCp (hr.mono (by decide)) (by rfl) DCp.m DCp.F.kp DCp.b .nil pass0 (pa_cons (pv 3) pa_nil)) (pa_cons (pe_call GCe (hr.mono (by decide)) (by rfl) DCe.m DCe.F.kp DCe.b .nil pass0 (pa_cons (pv 0) (pa_cons (pv 2) pa_nil))) pa_nil)) (by rfl))
      (pss_cons (ps_set (i := 6) scLaw.nd rfl (Or.inl rfl) (pe_op op_mod (pe_call GVa (hr.mono (by decide)) (by rfl) DVa.m DVa.F.kp DVa.b .nil pass0 (pa_cons (pv 5) (pa_cons pe_int pa_nil))) (pe_joinE (pe_ifExp (pt_cmp (pc_lt (pe_callB call_len_str (by rfl) T.len PySem.boot_len (pa_cons (pv 1) pa_nil)) pe_int)) pe_int pe_int))))
      (pss_cons (ps_setLc (i := 7) (own := [("_law_word", 8)]) (g := gName 8) (by rfl) scLaw.nd rfl rfl (sw_true rfl rfl rfl (by decide +kernel)) (pi_list (pe_call GTx (hr.mono (by decide)) (by rfl) DTx.m DTx.F.kp DTx.b .nil pass0 (pa_cons (pv 1) (pa_cons (pv 6) pa_nil))))
          (blkOk_by (own := [("_law_word", 8)]) (N := NLw) (sc := (defScope (top 47))) (by decide +kernel))
          (fun _ _ _ _ _ => (pg_name (i := 8) scLaw.nd rfl (Or.inl rfl))) (fun _ _ _ _ _ => (pts_one (pt_val (pe_call GLh (hr.mono (by decide)) (by rfl) DLh.m DLh.F.kp DLh.b .nil pass0 (pa_cons (pv 3) (pa_cons (pv 8) (pa_cons pe_int pa_nil))))))) (fun _ _ _ _ _ => (pv 8)))
      (pss_cons (ps_if (pt_cmp (pc_neI (pe_call GHM (hr.mono (by decide)) (by rfl) DHM.m DHM.F.kp DHM.b .nil pass0 (pa_cons (pv 3) (pa_cons (pv 6) pa_nil))) (pe_callB call_len_seq (by rfl) T.len PySem.boot_len (pa_cons (pv 7) pa_nil)))) (pss_one (ps_ret pe_bl)) pss_nil)
      (pss_cons (ps_for PassesOwn.never rfl (pi_range3 (by rfl) T.range (pa_cons pe_int (pa_cons (pe_callB call_len_seq (by rfl) T.len PySem.boot_len (pa_cons (pv 7) pa_nil)) (pa_cons (pe_op op_add pe_int (pe_op op_fdiv (pe_callB call_len_seq (by rfl) T.len PySem.boot_len (pa_cons (pv 7) pa_nil)) pe_int)) pa_nil)))) (pg_name (i := 9) scLaw.nd rfl (Or.inl rfl))
        hA)
      (pss_cons (ps_set (i := 6) scLaw.nd rfl (Or.inl rfl) (pe_op op_add pe_int (pe_op op_mod (pe_call GVa (hr.mono (by decide)) (by rfl) DVa.m DVa.F.kp DVa.b .nil pass0 (pa_cons (pv 5) (pa_cons pe_int pa_nil))) pe_int)))
      (pss_cons (ps_par (by rfl) scLaw.nd (i := 10) (j := 11) rfl rfl (by decide) rfl rfl (pa_cons (pe_call GHM (hr.mono (by decide)) (by rfl) DHM.m DHM.F.kp DHM.b .nil pass0 (pa_cons (pv 3) (pa_cons (pv 6) pa_nil))) (pa_cons pe_str pa_nil)) (by rfl))
      (pss_cons (ps_set (i := 12) scLaw.nd rfl (Or.inl rfl) (pe_lst (pa_cons pe_int (pa_cons (pe_op op_mod (pe_call GVa (hr.mono (by decide)) (by rfl) DVa.m DVa.F.kp DVa.b .nil pass0 (pa_cons (pv 5) (pa_cons pe_int pa_nil))) (pe_callB (call_max2 rfl) (by rfl) T.max (by decide +kernel) (pa_cons pe_int (pa_cons (pv 10) pa_nil)))) (pa_cons (pe_op op_sub (pv 10) pe_int) pa_nil)))))
      (pss_cons (ps_join (ps_if (pt_cmp (pc_eqI (pv 10) pe_int)) (pss_one (ps_set (i := 12) scLaw.nd rfl (Or.inl rfl) (pe_lst pa_nil))) pss_nil))
      (pss_cons (ps_for PassesOwn.never rfl (pi_list (pe_sortset rfl (pv 12) (by rfl) Tsorted (by rfl) Tset)) (pg_name (i := 9) scLaw.nd rfl (Or.inl rfl))
        hB)
      (pss_cons (ps_set (i := 8) scLaw.nd rfl (Or.inl rfl) (pe_call GDr (hr.mono (by decide)) (by rfl) DDr.m DDr.F.kp DDr.b .nil pass0 (pa_cons (pv 0) (pa_cons (pe_op op_add (pv 2) pe_int) (pa_cons (pv 1) (pa_cons pe_int pa_nil))))))
      (pss_one (ps_if (PW.pt (pw_and (pt_val (pe_call GLh (hr.mono (by decide)) (by rfl) DLh.m DLh.F.kp DLh.b .nil pass0 (pa_cons (pv 3) (pa_cons (pv 8) (pa_cons pe_int pa_nil))))) (pw_and1 (pt_cmpR op_ne (pe_call GWb (hr.mono (by decide)) (by rfl) DWb.m DWb.F.kp DWb.b .nil pass0 (pa_cons (pv 3) (pa_cons (pe_callB call_len_str (by rfl) T.len PySem.boot_len (pa_cons (pv 8) pa_nil)) (pa_cons (pe_call GNo (hr.mono (by decide)) (by rfl) DNo.m DNo.F.kp DNo.b .nil pass0 (pa_cons (pv 3) (pa_cons (pv 8) pa_nil))) pa_nil)))) (pv 8) (nomark _))))) (pss_one (ps_ret pe_bl)) pss_nil))))))))))))))) (pss_cons ?smir ?tail))), ?rdg⟩
    case smir =>
      refine' ps_set (i := 13) ?n9 ?h91 ?h92 ?h93
      case n9 => exact scLaw.nd
      case h91 => rfl
      case h92 => exact Or.inl rfl
      case h93 =>
        refine' @pe_cst _ 9 _ (dM mirrors) ?hc
        rfl
    case tail => exact pss_cons (ps_if (PW.pt (pw_or (pt_cmpR op_ne (pe_call GWb (hr.mono (by decide)) (by rfl) DWb.m DWb.F.kp DWb.b .nil pass0 (pa_cons (pv 13) (pa_cons pe_int (pa_cons pe_int pa_nil)))) pe_str (nomark _)) (pw_or (pt_cmp (pc_neI (pe_call GNo (hr.mono (by decide)) (by rfl) DNo.m DNo.F.kp DNo.b .nil pass0 (pa_cons (pv 13) (pa_cons pe_str pa_nil))) pe_int)) (pw_or1 (pt_cmpR op_ne (pe_call GWb (hr.mono (by decide)) (by rfl) DWb.m DWb.F.kp DWb.b .nil pass0 (pa_cons (pv 13) (pa_cons pe_int (pa_cons pe_int pa_nil)))) pe_str (nomark _)))))) (pss_one (ps_ret pe_bl)) pss_nil) (pss_one (ps_ret (pe_cmpR op_eq (pe_call GWb (hr.mono (by decide)) (by rfl) DWb.m DWb.F.kp DWb.b .nil pass0 (pa_cons (pv 13) (pa_cons pe_int (pa_cons (pe_op op_sub (pe_op op_pow pe_int pe_int) pe_int) pa_nil)))) (pe_op op_repS pe_str pe_int) (nomark _))))
    case rdg =>
      -- script[:63]
      refine ⟨_, rfl, _, rfl, a, _, rfl, hS, fun p hp => ?_⟩
      obtain ⟨ms, ems, hms⟩ : ∃ ms : List Int, cutV (ns.map V.int) none (some 63) = ms.map V.int ∧ ms.length ≤ 63 := by
        refine ⟨(ns.drop (HT.sIx (ns.map V.int).length 0 none)).take (HT.sIx (ns.map V.int).length (ns.map V.int).length (some 63) - HT.sIx (ns.map V.int).length 0 none), ?_, ?_⟩
        · unfold cutV; rw [List.map_take, List.map_drop]
        · rw [List.length_take, List.length_drop]; omega
      rw [ems]
      have sPp : Same H (upd H p (.lst (ms.map V.int))) := Same.upd hp
      have hpS : (upd H p (.lst (ms.map V.int))) p = some (.lst (ms.map V.int)) := upd_same
      generalize upd H p (.lst (ms.map V.int)) = Hs at sPp hpS ⊢
      -- letters
      refine ⟨_, rfl, p, ms, rfl, SqL.of hpS, fun L H0 hL s0 => ?_⟩
      have hp0 := s0 _ _ hpS
      -- for by in range(..)
      refine ⟨_, rfl, p, _, rfl, .inl (SqL.of hp0), _, _, rfl, _, _, rfl, ?_⟩
      have hml : (ms.map V.int).length ≤ 63 := by rw [List.length_map]; exact hms
      have hmx : ∀ k : Int, k ≤ 2 → -(2 ^ 62) ≤ (if k > 1 then k else 1) ∧ (if k > 1 then k else 1) < 2 ^ 62 := fun k hk => by split <;> omega
      have hmn : ∀ k : Int, (if k < 2 then k else 2) ≤ 2 := fun k => by split <;> omega
      refine ⟨0, _, rfl, ⟨by decide, by decide, (hmx _ (hmn _)).1, (hmx _ (hmn _)).2⟩, for_range (lo := 0) (fun i σ H' => ∃ o2 o3 o4 o5 o6 o7 o8 o9 o10 o11 o12, σ = [some (.ref p), some (.str L), o2, o3, o4, o5, o6, o7, o8, o9, o10, o11, o12, none] ∧ Same H0 H')
        ⟨none, none, none, none, none, none, none, none, none, none, none, rfl, Same.refl _⟩ ?_ ?_⟩
      · rintro i σ H1 hi ⟨o2, o3, o4, o5, o6, o7, o8, o9, o10, o11, o12, rfl, s1⟩
        have hB : 0 ≤ (0 : Int) + (i : Nat) := by omega
        generalize (0 : Int) + (i : Nat) = B at hB ⊢
        have hp1 := s1 _ _ hp0
        -- the machine
        refine ⟨_, rfl, _, rfl, _, rfl, p, ms, _, L, 5, rfl, SqL.of hp1, hB, hL, by decide, by decide, fun M vM H2 ok eL hn5 s2 hM => ?_⟩
        subst eL
        have n40 := ok.n40
        have mN := ok.mids
        have k1 := hL.k1
        have k3 := hL.k3
        have hzL : M.letters.length ≤ sizeLine := sz_le (by show M.letters.cps.size ≤ _; omega)
        have hp2 := s2 _ _ hp1
        -- handed, cell
        refine ⟨_, rfl, vM, M, rfl, hM, by omega, by omega, fun vC H3 s3 hC => ?_⟩
        refine ⟨_, rfl, _, rfl, p, ms, _, rfl, SqL.of (s3 _ _ hp2), hB, fun cl => ⟨_, _, rfl, ?_⟩⟩
        -- long
        refine ⟨_, rfl, cl, 6, rfl, by decide, by decide, fun v H4 hv s4 => ?_⟩
        refine ⟨fun x H' => ∃ k : Int, x = .int k ∧ (k = 6 ∨ k = 4) ∧ H4 = H', ?_, ?_⟩
        · refine ⟨_, rfl, M.letters, rfl, hzL, _, _, rfl, rfl, _, rfl, ite2D (fun _ => ?_) (fun _ => ?_)⟩
          · exact ⟨6, rfl, .inl rfl, rfl⟩
          · exact ⟨4, rfl, .inr rfl, rfl⟩
        rintro _ _ ⟨k, rfl, hk, rfl⟩
        obtain ⟨n, en, hn⟩ : ∃ n : Nat, v % k = ((n : Nat) : Int) ∧ n ≤ 5 := by
          have h1 : 0 ≤ v % k := Int.emod_nonneg _ (by omega)
          have h2 : v % k < k := Int.emod_lt_of_pos _ (by omega)
          exact ⟨(v % k).toNat, by omega, by omega⟩
        refine ⟨_, _, rfl, rfl, by omega, ?_⟩
        show gName 6 (V.int (v % k)) _ _ _
        rw [en]
        -- due
        have hle : (textsL M.L n).length ≤ 729 := textsL_le hL (t := n) (by omega)
        refine ⟨_, rfl, _, rfl, M.letters, n, rfl, hL, by omega, fun lt H5 s5 hlt e5 => ?_⟩
        refine ⟨lt, rfl, ⟨_, SqL.of e5⟩, fun D1 hD1 => lc_list (K := K) (a := lt) (xs := vT (textsL M.L n)) (fun i H' => Same H5 H' ∧ H' D1 = some (.lst (vT (((textsL M.L n).take i).filter (M.hasAt 0))))) ⟨Same.upd hD1, upd_same⟩ (fun i H' _ h => SqL.of (h.1 _ _ e5)) ?_ ?_⟩
        · rintro i v H6 hv ⟨s6, e6⟩
          have hi : i < (textsL M.L n).length := by have := (List.getElem?_eq_some_iff.mp hv).1; simpa using this
          rw [List.getElem?_map, List.getElem?_eq_getElem hi] at hv
          cases Option.some.inj hv
          obtain ⟨w1, w2⟩ := textsL_mem (List.getElem_mem hi)
          have etk : (textsL M.L n).take (i + 1) = (textsL M.L n).take i ++ [(textsL M.L n)[i]] := List.take_succ_eq_append_getElem hi
          generalize (textsL M.L n)[i] = x at w1 w2 etk ⊢
          refine ⟨rfl, ?_⟩
          refine ⟨_, rfl, _, rfl, vM, M, mkS x, 0, rfl, hM.same (s3.trans (s4.trans (s5.trans s6))), ok, fun c hc => w2 c (by rw [mkS_list] at hc; exact hc), by rw [mkS_size]; omega, ok.n1, _, rfl, ?_⟩
          rw [mkS_list]
          by_cases hh : M.hasAt 0 x = true
          · rw [hh]
            refine iteT ⟨_, rfl, _, e6, ?_, Same.put s6 hD1, ?_⟩
            · rw [List.length_map]
              exact sz_lt (Nat.le_trans (List.length_filter_le ..) (by rw [List.length_take]; omega))
            · rw [upd_same, etk, List.filter_append, List.filter_cons_of_pos hh]
              show some (HO.lst (vT _ ++ [V.str (mkS x)])) = some (HO.lst (vT (_ ++ [x])))
              unfold vT
              rw [List.map_append]; rfl
          · rw [Bool.eq_false_iff.mpr hh]
            refine iteF ⟨s6, ?_⟩
            rw [e6, etk, List.filter_append, List.filter_cons_of_neg hh]
            simp
        rintro H6 ⟨s6, e6⟩
        rw [List.length_map, List.take_length, ← pw0] at e6
        have s36 := s3.trans (s4.trans (s5.trans s6))
        have hM6 := hM.same s36
        have hC6 := hC.same (s4.trans (s5.trans s6))
        -- how_many
        refine ⟨_, rfl, _, rfl, vM, M, n, rfl, hM6, ok, by omega, fun H7 s7 => ?_⟩
        have e7 := s7 _ _ e6
        have elp : (vT (pw M n [])).length = M.cnt n 0 := by unfold vT; rw [List.length_map, len_pw ok]
        refine ⟨_, rfl, D1, _, rfl, .inl (SqL.of e7), _, _, rfl, rfl, _, rfl, iteNS (by rw [elp]) ?_⟩
        have hpl : (pw M n []).length ≤ 729 := by
          rw [pw0]; exact Nat.le_trans (List.length_filter_le ..) hle
        have hvl : (vT (pw M n [])).length = (pw M n []).length := by unfold vT; rw [List.length_map]
        obtain ⟨nn, hrg, hltn⟩ := rg_any (j := (vT (pw M n [])).length) (c := 1 + (((vT (pw M n [])).length : Nat) : Int) / 9) (by omega) (by omega) (by omega)
        have s37 := s36.trans s7
        have hM7 := hM6.same s7
        have hC7 := hC6.same s7
        refine ⟨_, rfl, D1, _, rfl, .inl (SqL.of e7), _, rfl, D1, _, rfl, .inl (SqL.of e7), _, _, rfl, rfl, ⟨by decide, by decide⟩, _, _, rfl, rfl, ?_⟩
        refine ⟨_, _, _, nn, rfl, hrg, for_rangeC (fun j σ H' => ∃ o9, σ = [some (.ref p), some (.str M.letters), some (.int B), some vM, some vC, some (.int cl), some (.int ((n : Nat) : Int)), some (.ref D1), o8, o9, o10, o11, o12, none] ∧ Same H7 H')
          ⟨_, rfl, Same.refl _⟩ ?_ ?_⟩
        · rintro j σ H8 hj ⟨o9', rfl, s8⟩
          obtain ⟨g1, g2⟩ := hltn j hj
          obtain ⟨num, enum⟩ : ∃ num : Nat, (0 : Int) + (j : Nat) * (1 + (((vT (pw M n [])).length : Nat) : Int) / 9) = ((num : Nat) : Int) := ⟨_, (Int.toNat_of_nonneg g1).symm⟩
          rw [enum] at g2
          rw [enum]
          have hnl : num < (pw M n []).length := by omega
          exact rA _ _ _ ⟨.ref p, vM, vC, B, cl, D1, M, n, num, (pw M n [])[num]'hnl, o8, o10, o11, o12, rfl, hC7.same s8, ok, by omega, s8 _ _ e7, List.getElem?_eq_getElem hnl, fun H9 s9 => ⟨_, rfl, s8.trans s9⟩⟩
        rintro σ H8 ⟨o9', rfl, s8⟩
        have s38 := s37.trans s8
        have hM8 := hM7.same s8
        have hC8 := hC7.same s8
        clear e7 hltn hrg hpl hvl elp hle e6 e5
        -- longer
        refine ⟨_, rfl, cl, 7, rfl, by decide, by decide, fun v2 H9 hv2 s9 => ?_⟩
        obtain ⟨m, em, hm⟩ : ∃ m : Nat, 6 + v2 % 8 = ((m : Nat) : Int) ∧ 6 ≤ m ∧ m ≤ 13 := by
          have h1 : 0 ≤ v2 % 8 := Int.emod_nonneg _ (by omega)
          have h2 : v2 % 8 < 8 := Int.emod_lt_of_pos _ (by omega)
          exact ⟨(6 + v2 % 8).toNat, by omega, by omega⟩
        refine ⟨_, _, rfl, rfl, by show (0 : Int) < 8; decide, _, _, rfl, rfl, ?_⟩
        show gName 6 (V.int (6 + v2 % 8)) _ _ _
        rw [em]
        have hM9 := hM8.same s9
        have hC9 := hC8.same s9
        -- many, before
        refine ⟨_, rfl, _, rfl, vM, M, m, rfl, hM9, ok, by omega, fun H10 s10 => ⟨_, _, rfl, ?_⟩⟩
        generalize hC0 : M.cnt m 0 = C0
        -- numbers
        have hmx1 : (1 : Int) ≤ (if ((C0 : Nat) : Int) > 1 then ((C0 : Nat) : Int) else 1) ∧ (1 ≤ C0 → (if ((C0 : Nat) : Int) > 1 then ((C0 : Nat) : Int) else 1) = ((C0 : Nat) : Int)) := by
          split <;> omega
        generalize hmx2 : (if ((C0 : Nat) : Int) > 1 then ((C0 : Nat) : Int) else 1) = mx at hmx1
        refine ⟨_, rfl, cl, 8, rfl, by decide, by decide, fun v3 H11 hv3 s11 => ?_⟩
        refine ⟨_, rfl, _, _, rfl, _, _, rfl, rfl, by show (0 : Int) < (if ((C0 : Nat) : Int) > 1 then ((C0 : Nat) : Int) else 1); rw [hmx2]; omega, _, rfl, _, _, rfl, rfl, by show 3 ≤ sizeLine; decide, fun pn hpn => ?_⟩
        rw [hmx2]
        have s12 : Same H11 (upd H11 pn (.lst [.int 0, .int (v3 % mx), .int (((C0 : Nat) : Int) - 1)])) := Same.upd hpn
        have e12 : (upd H11 pn (.lst [.int 0, .int (v3 % mx), .int (((C0 : Nat) : Int) - 1)])) pn = some (.lst [.int 0, .int (v3 % mx), .int (((C0 : Nat) : Int) - 1)]) := upd_same
        generalize upd H11 pn (.lst [.int 0, .int (v3 % mx), .int (((C0 : Nat) : Int) - 1)]) = H12 at s12 e12 ⊢
        have hv4 : 0 ≤ v3 % mx ∧ v3 % mx < mx := ⟨Int.emod_nonneg _ (by omega), Int.emod_lt_of_pos _ (by omega)⟩
        have s912 := s10.trans (s11.trans s12)
        refine ⟨fun σ H' => ∃ (pq : Addr) (ns' : List Int), σ = [some (.ref p), some (.str M.letters), some (.int B), some vM, some vC, some (.int cl), some (.int ((m : Nat) : Int)), some (.ref D1), o8, o9', some (.int ((C0 : Nat) : Int)), some (.str ""), some (.ref pq), none] ∧ Same H12 H' ∧ H' pq = some (.lst (ns'.map V.int)) ∧ ns'.length ≤ 3 ∧ ∀ y ∈ ns', (0 : Int) ≤ y ∧ y < ((C0 : Nat) : Int), ?_, ?_⟩
        · refine ⟨_, rfl, _, _, rfl, rfl, _, rfl, ite2D (fun h0 => ?_) (fun h0 => ?_)⟩
          · exact ⟨by show 0 ≤ sizeLine; decide, fun q hq => ⟨q, [], rfl, Same.upd hq, upd_same, by show 0 ≤ 3; decide, fun y hy => by cases hy⟩⟩
          · have h1 : 1 ≤ C0 := by
              have : ¬ ((C0 : Nat) : Int) = 0 := h0
              omega
            have h2 := hmx1.2 h1
            refine ⟨pn, [0, v3 % mx, ((C0 : Nat) : Int) - 1], rfl, Same.refl _, e12, by show 3 ≤ 3; decide, fun y hy => ?_⟩
            simp only [List.mem_cons, List.not_mem_nil, or_false] at hy
            rcases hy with rfl | rfl | rfl <;> omega
        rintro σ H13 ⟨pq, ns', rfl, s13, e13, hl13, hr13⟩
        clear hmx1 hmx2 hv4 e12
        have s913 := s912.trans s13
        have hM13 := hM9.same s913
        have hC13 := hC9.same s913
        have hpl : (pw M m []).length = C0 := by rw [len_pw ok]; exact hC0
        -- for number in sorted(set(numbers))
        refine ⟨_, rfl, pq, ns', rfl, SqL.of e13, hl13, fun ys ps hys hmem hps => ?_⟩
        have s14 : Same H13 (upd H13 ps (.lst (ys.map V.int))) := Same.upd hps
        have e14 : (upd H13 ps (.lst (ys.map V.int))) ps = some (.lst (ys.map V.int)) := upd_same
        generalize upd H13 ps (.lst (ys.map V.int)) = H14 at s14 e14 ⊢
        refine ⟨ps, rfl, ⟨_, SqL.of e14⟩, for_list (K := K) (a := ps) (xs := ys.map V.int) (fun t σ H' => ∃ (o8 o9 : Option V) (bf : Str), σ = [some (.ref p), some (.str M.letters), some (.int B), some vM, some vC, some (.int cl), some (.int ((m : Nat) : Int)), some (.ref D1), o8, o9, some (.int ((C0 : Nat) : Int)), some (.str bf), some (.ref pq), none] ∧ Same H14 H' ∧ ∀ y w, ys[t]? = some y → (pw M m [])[y.toNat]? = some w → bf.cps.toList < w)
          ⟨o8, o9', "", rfl, Same.refl _, fun y w _ hw => ?_⟩ (fun j σ H' _ ⟨_, _, _, _, h, _⟩ => SqL.of (h _ _ e14)) ?_ ?_⟩
        · obtain ⟨h1, _, _⟩ := pw_mem.mp (List.mem_of_getElem? hw)
          have h2 : w.length = m := by simpa using h1
          cases w with
          | nil => simp at h2; omega
          | cons c w => exact List.Lex.nil
        · rintro t v σ H15 hv ⟨o8, o9, bf, rfl, s15, hbf⟩
          rw [List.getElem?_map] at hv
          cases hyt : ys[t]? with
          | none => rw [hyt] at hv; cases hv
          | some y =>
            rw [hyt] at hv
            cases Option.some.inj hv
            obtain ⟨y0, y1⟩ := hr13 y ((hmem y).mp (List.mem_of_getElem? hyt))
            obtain ⟨num, rfl⟩ : ∃ num : Nat, y = ((num : Nat) : Int) := ⟨y.toNat, (Int.toNat_of_nonneg y0).symm⟩
            have hnl : num < (pw M m []).length := by omega
            have hw : (pw M m [])[num]? = some ((pw M m [])[num]'hnl) := List.getElem?_eq_getElem hnl
            have hlt := hbf _ ((pw M m [])[num]'hnl) hyt (by rw [Int.toNat_natCast]; exact hw)
            have s145 := s14.trans s15
            refine rB _ _ _ ⟨.ref p, vM, vC, B, cl, D1, M, m, num, (pw M m [])[num]'hnl, bf, o8, some (.int ((C0 : Nat) : Int)), some (.ref pq), rfl, hM13.same s145, hC13.same s145, ok, by omega, hw, hlt, fun H16 s16 => ⟨_, _, _, rfl, s15.trans s16, fun y' w' hy' hw' => ?_⟩⟩
            rw [mkS_list]
            obtain ⟨a1, b1⟩ := List.getElem?_eq_some_iff.mp hyt
            obtain ⟨a2, b2⟩ := List.getElem?_eq_some_iff.mp hy'
            have h1 := List.pairwise_iff_getElem.mp hys t (t + 1) a1 a2 (by omega)
            rw [b1, b2] at h1
            obtain ⟨a3, b3⟩ := List.getElem?_eq_some_iff.mp hw'
            have h2 := List.pairwise_iff_getElem.mp (pw_up ok.let_ m []) num y'.toNat hnl a3 (by omega)
            rw [b3] at h2
            exact h2
        rintro σ H15 ⟨o8', o9, bf, rfl, s15, _⟩
        have sAll := s1.trans (s2.trans (s38.trans (s9.trans (s913.trans (s14.trans s15)))))
        have hM15 := hM13.same (s14.trans s15)
        -- a drawn word
        refine ⟨_, rfl, _, rfl, _, _, rfl, rfl, _, rfl, p, ms, B + 1, M.letters, 14, rfl, SqL.of (sAll _ _ hp0), by omega, hL, by decide, by decide, fun x H16 s16 ov hx => ?_⟩
        have hM16 := hM15.same s16
        have hx14 : x.cps.size ≤ 14 := by omega
        have hzx : x.length ≤ sizeLine := sz_le (by show x.cps.size ≤ _; omega)
        refine ⟨_, rfl, _, rfl, vM, M, x, 0, rfl, hM16, ok, ov, by omega, ok.n1, _, rfl, ?_⟩
        cases hh : M.hasAt 0 x.cps.toList with
        | false => exact iteF (iteF ⟨_, _, _, _, _, _, _, _, _, _, _, rfl, sAll.trans s16⟩)
        | true =>
          refine iteT ?_
          have hxl : x.cps.toList.length = x.cps.size := Array.length_toList
          have hna := num_at (M := M) (n := x.cps.size) x.cps.toList [] (by rw [hxl]; simp) ov hh
          refine ⟨_, rfl, _, rfl, x, rfl, hzx, _, rfl, _, rfl, vM, M, x, rfl, hM16, ok, ov, by omega, by rw [Mach.has_at]; exact hh, fun H17 s17 => ?_⟩
          refine ⟨vM, M, x.cps.size, _, x.cps.toList, rfl, hM16.same s17, ok, by omega, hna, fun H18 s18 => ?_⟩
          rw [mkS_of]
          exact ⟨_, rfl, rfl, _, rfl, iteNS rfl ⟨_, _, _, _, _, _, _, _, _, _, _, rfl, sAll.trans (s16.trans (s17.trans s18))⟩⟩
      · rintro σ H1 ⟨o2, o3, o4, o5, o6, o7, o8, o9, o10, o11, o12, rfl, s1⟩
        -- mirrors
        intro vm H2 s2 tm
        have hMi := MAt.of_tk tm
        refine ⟨_, rfl, vm, mirrors, 4, 1, [97, 98, 98, 97], rfl, hMi, ok_mirrors, by decide, mir_1, fun H3 s3 => ?_⟩
        refine ⟨rfl, _, rfl, iteNS (c := V.str (mkS [97, 98, 98, 97]) = V.str "abba") (by decide +kernel) ?_⟩
        have e2 : Be.num mirrors ("bab" : Str).cps.size [] ("bab" : Str).cps.toList = 2 := by decide +kernel
        refine ⟨_, rfl, vm, mirrors, "bab", rfl, hMi.same s3, ok_mirrors, (by unfold Over; decide +kernel), by decide +kernel, by decide +kernel, fun H4 s4 => ?_⟩
        rw [e2]
        refine ⟨_, _, rfl, rfl, _, rfl, iteNS rfl ?_⟩
        refine ⟨_, rfl, vm, mirrors, 0, 0, [], rfl, hMi.same (s3.trans s4), ok_mirrors, by decide, mir_0, fun H5 s5 => ?_⟩
        refine ⟨rfl, _, rfl, iteNS (c := V.str (mkS []) = V.str "") (by decide +kernel) ?_⟩
        refine ⟨_, rfl, _, _, rfl, rfl, ⟨by decide, by decide, by decide⟩, _, _, rfl, rfl, ?_⟩
        refine ⟨vm, mirrors, 16, 255, List.replicate 16 98, rfl, hMi.same (s3.trans (s4.trans s5)), ok_mirrors, by decide, mir_last, fun H6 s6 => ?_⟩
        refine ⟨"b", 16, rfl, rfl, ⟨by decide +kernel, fun _ _ => by decide +kernel, fun _ _ => by decide +kernel⟩, rfl, ?_⟩
        rw [show decide (V.str (mkS (List.replicate 16 98)) = V.str (Txt.mul "b" 16)) = true by decide +kernel]
        exact kk _
end
end Be

namespace Be
open PySem L2
/-- a def as the top has written it -/
structure Wr (K : PySem.W.Frag) (x : Str) (st : Stmt) (f : Addr) (fd : FuncData) : Prop where
  a : PySem.W.nsIn K mainGlobals x = some (some (.ref f))
  F : Fun K x x st f fd
theorem Wr.mk' {K : PySem.W.Frag} {x : Str} {st : Stmt} {f : Addr} {oc : Value} {od an : Option Addr} {osl : Array (Option Value)} {kV doc pm cdv ct : Value} (a : PySem.W.nsIn K mainGlobals x = some (some (.ref f)))
    (l : K.lookup f = some ⟨oc, od, .func (PySem.W.fnOf x x (defArgs st) (defBody st) (defScope st) .none kV doc pm an cdv ct), osl⟩) (c : PySem.W.codeIn K cdv x = true) (k : PySem.W.keepIn K (.ref f) = true) :
    Wr K x st f (PySem.W.fnOf x x (defArgs st) (defBody st) (defScope st) .none kV doc pm an cdv ct) := ⟨a, fun_mk l c k⟩
theorem Wr.def {K : PySem.W.Frag} {mg : Str → Option Value} {h : Heap} {x : Str} {st : Stmt} {f : Addr} {fd : FuncData} {ps : List Str} (W : Wr K x st f fd) (X : K.In h) (G : h.Ns mainGlobals mg) (b : Binds K fd ps []) : Def K mg x st ps f fd := ⟨W.F, b, PySem.W.mg_of X G W.a⟩
structure WrM (K : PySem.W.Frag) (C : Addr) (m qual : Str) (st : Stmt) (f : Addr) (fd : FuncData) : Prop where
  M : Meth K C m f
  F : Fun K m qual st f fd
theorem WrM.mk' {K : PySem.W.Frag} {C : Addr} {m qual : Str} {st : Stmt} {f : Addr} {oc : Value} {od an : Option Addr} {osl : Array (Option Value)} {kV doc pm cdv ct : Value} (a : PySem.W.findIn K (.ref C) m = some (some (.ref f))) (i : PySem.W.isFn K (.ref f) = true)
    (l : K.lookup f = some ⟨oc, od, .func (PySem.W.fnOf m qual (defArgs st) (defBody st) (defScope st) .none kV doc pm an cdv ct), osl⟩) (c : PySem.W.codeIn K cdv qual = true) (k : PySem.W.keepIn K (.ref f) = true) :
    WrM K C m qual st f (PySem.W.fnOf m qual (defArgs st) (defBody st) (defScope st) .none kV doc pm an cdv ct) := ⟨⟨a, i, k⟩, fun_mk l c k⟩
structure WrC (K : PySem.W.Frag) (x : Str) (C : Addr) : Prop where
  a : PySem.W.nsIn K mainGlobals x = some (some (.ref C))
  pg : PySem.W.plainGet K C Str.empty = true
  hd : PySem.W.hasDictIn K C = true
  po : PySem.W.plainOver K C = true
  sa : PySem.W.findIn K (.ref C) "__setattr__" = some (some (.builtin "object.__setattr__"))
  cA : PySem.W.findIn K (.ref C) "__class__" = some (some (.builtin "object.__class__"))
  cN : PySem.W.specialIn K (.builtin "object.__class__") "__get__" = some (some (.builtin "getset_descriptor.__get__"))
  cT : PySem.W.takesIn K (.builtin "object.__class__") = some true
  cM : PySem.W.mroIn K C (.type "object") = some true
  mk_ : PySem.W.makesIn K C = true
  kc : PySem.W.keepIn K (.ref C) = true
theorem WrC.kl {K : PySem.W.Frag} {mg : Str → Option Value} {h : Heap} {x : Str} {C : Addr} (W : WrC K x C) (X : K.In h) (G : h.Ns mainGlobals mg) : Kl K mg x C := ⟨PySem.W.mg_of X G W.a, ⟨W.pg, W.hd, W.po, W.sa⟩, W.cA, W.cN, W.cT, W.cM⟩
set_option maxHeartbeats 4000000 in
theorem all_mk {l : PySem.W.OpenLaw} {w : World} {K : PySem.W.Frag} {h : Heap} {mg : Str → Option Value} {fa : Addr} {f7 f8 f9 fIS f10 f11 f12 f13 f14 fTO f15 f16 fCL f21 f22 fRD f23 fCI fHM fWB fNO f26 f27 f28 f31 f32 f33 f34 f35 f37 fWY fLE f39 : Addr} {fd7 fd8 fd9 fdIS fd10 fd11 fd12 fd13 fd14 fdTO fd15 fd16 fdCL fd21 fd22 fdRD fd23 fdCI fdHM fdWB fdNO fd26 fd27 fd28 fd31 fd32 fd33 fd34 fd35 fd37 fdWY fdLE fd39 : FuncData} {tml tms tmw : Tok} {CB fBi fBlh fBrp fBsh fBco fBta fBwb : Addr} {fdBi fdBlh fdBrp fdBsh fdBco fdBta fdBwb : FuncData} (X : K.In h) (G : h.Ns mainGlobals mg) (hfa : mg "law" = some (.ref fa))
    (W7 : Wr K "is_number" (top 10) f7 fd7)
    (W8 : Wr K "is_list_of" (top 11) f8 fd8)
    (W9 : Wr K "are_letters" (top 12) f9 fd9)
    (WIS : Wr K "is_state" (top 13) fIS fdIS)
    (W10 : Wr K "are_states" (top 14) f10 fd10)
    (W11 : Wr K "are_truths" (top 15) f11 fd11)
    (W12 : Wr K "are_moves" (top 16) f12 fd12)
    (W13 : Wr K "are_middles" (top 17) f13 fd13)
    (W14 : Wr K "is_machine" (top 18) f14 fd14)
    (WTO : Wr K "is_text_of" (top 19) fTO fdTO)
    (W15 : Wr K "check_machine" (top 20) f15 fd15)
    (W16 : Wr K "check_word" (top 21) f16 fd16)
    (WCL : Wr K "check_length" (top 22) fCL fdCL)
    (W21 : Wr K "pair_at" (top 25) f21 fd21)
    (W22 : Wr K "state_behind" (top 26) f22 fd22)
    (WRD : Wr K "reads" (top 27) fRD fdRD)
    (W23 : Wr K "has" (top 28) f23 fd23)
    (WCI : Wr K "counts_inside" (top 30) fCI fdCI)
    (WHM : Wr K "how_many" (top 32) fHM fdHM)
    (WWB : Wr K "word_by" (top 33) fWB fdWB)
    (WNO : Wr K "number_of" (top 34) fNO fdNO)
    (W26 : Wr K "_law_cell_at" (top 36) f26 fd26)
    (W27 : Wr K "_law_draw" (top 37) f27 fd27)
    (W28 : Wr K "_law_value" (top 38) f28 fd28)
    (W31 : Wr K "_law_machine" (top 39) f31 fd31)
    (W32 : Wr K "_law_letters" (top 40) f32 fd32)
    (W33 : Wr K "_law_copy" (top 41) f33 fd33)
    (W34 : Wr K "_law_has" (top 42) f34 fd34)
    (W35 : Wr K "_law_texts" (top 43) f35 fd35)
    (W37 : Wr K "_law_drawn" (top 44) f37 fd37)
    (WWY : Wr K "_law_ways" (top 45) fWY fdWY)
    (WLE : Wr K "_law_lesser" (top 46) fLE fdLE)
    (W39 : Wr K "law" (top 47) f39 fd39)
    (WB : WrC K "Beginning" CB)
    (WBi : WrM K CB "__init__" "Beginning.__init__" (stN (clsB (top 31)) 0) fBi fdBi)
    (WBlh : WrM K CB "in_left_half" "Beginning.in_left_half" (stN (clsB (top 31)) 1) fBlh fdBlh)
    (WBrp : WrM K CB "row_parts" "Beginning.row_parts" (stN (clsB (top 31)) 2) fBrp fdBrp)
    (WBsh : WrM K CB "shares" "Beginning.shares" (stN (clsB (top 31)) 3) fBsh fdBsh)
    (WBco : WrM K CB "counts" "Beginning.counts" (stN (clsB (top 31)) 4) fBco fdBco)
    (WBta : WrM K CB "take" "Beginning.take" (stN (clsB (top 31)) 5) fBta fdBta)
    (WBwb : WrM K CB "ways_by" "Beginning.ways_by" (stN (clsB (top 31)) 6) fBwb fdBwb)
    (n_B_machine : PySem.W.findIn K (.ref CB) "machine" = some none)
    (n_B_long : PySem.W.findIn K (.ref CB) "long" = some none)
    (n_B_places : PySem.W.findIn K (.ref CB) "places" = some none)
    (n_B_inside : PySem.W.findIn K (.ref CB) "inside" = some none)
    (n_B_ways : PySem.W.findIn K (.ref CB) "ways" = some none)
    (n_B_rest : PySem.W.findIn K (.ref CB) "rest" = some none)
    (c_ml : PySem.W.nsIn K mainGlobals "MOST_LETTERS" = some (some (.int 3 tml)))
    (c_ms : PySem.W.nsIn K mainGlobals "MOST_STATES" = some (some (.int 40 tms)))
    (c_mw : PySem.W.nsIn K mainGlobals "MOST_OF_WORD" = some (some (.int 60 tmw)))
    (z_isinstance : PySem.W.nsIn K mainGlobals "isinstance" = some none)
    (z_int : PySem.W.nsIn K mainGlobals "int" = some none)
    (z_bool : PySem.W.nsIn K mainGlobals "bool" = some none)
    (z_str : PySem.W.nsIn K mainGlobals "str" = some none)
    (z_list : PySem.W.nsIn K mainGlobals "list" = some none)
    (z_tuple : PySem.W.nsIn K mainGlobals "tuple" = some none)
    (z_len : PySem.W.nsIn K mainGlobals "len" = some none)
    (z_all : PySem.W.nsIn K mainGlobals "all" = some none)
    (z_zip : PySem.W.nsIn K mainGlobals "zip" = some none)
    (z_range : PySem.W.nsIn K mainGlobals "range" = some none)
    (z_max : PySem.W.nsIn K mainGlobals "max" = some none)
    (z_enumerate : PySem.W.nsIn K mainGlobals "enumerate" = some none)
    (z_sum : PySem.W.nsIn K mainGlobals "sum" = some none)
    (z_min : PySem.W.nsIn K mainGlobals "min" = some none)
    (z_sorted : PySem.W.nsIn K mainGlobals "sorted" = some none)
    (z_set : PySem.W.nsIn K mainGlobals "set" = some none)
    (hbl : ∀ (s : Shared) (v : Value), BindsTo s fd39 ⟨[v], []⟩ [("_law_script", v)]) :
    ∃ fd : FuncData, (∀ (s : Shared) (v : Value), BindsTo s fd ⟨[v], []⟩ [("_law_script", v)]) ∧ ∀ base : Heap, K.In base → base.Ns mainGlobals mg → FnOk l.prog w K mg base CX0 13 fa fd ["_law_script"] (spLaw K) := by
  have e := hfa.symm.trans (PySem.W.mg_of X G W39.a)
  cases e
  have T : BI mg := ⟨PySem.W.mg_none_of X G z_isinstance, PySem.W.mg_none_of X G z_int, PySem.W.mg_none_of X G z_bool, PySem.W.mg_none_of X G z_str, PySem.W.mg_none_of X G z_list, PySem.W.mg_none_of X G z_tuple, PySem.W.mg_none_of X G z_len, PySem.W.mg_none_of X G z_all, PySem.W.mg_none_of X G z_zip, PySem.W.mg_none_of X G z_range, PySem.W.mg_none_of X G z_max, PySem.W.mg_none_of X G z_enumerate⟩
  have Tsum : mg "sum" = none := PySem.W.mg_none_of X G z_sum
  have Tmin : mg "min" = none := PySem.W.mg_none_of X G z_min
  have Tsorted : mg "sorted" = none := PySem.W.mg_none_of X G z_sorted
  have Tset : mg "set" = none := PySem.W.mg_none_of X G z_set
  have C : CO mg := ⟨⟨_, PySem.W.mg_of X G c_ml⟩, ⟨_, PySem.W.mg_of X G c_ms⟩, ⟨_, PySem.W.mg_of X G c_mw⟩⟩
  have D7 : Def K mg "is_number" (top 10) ["value"] f7 fd7 := W7.def X G (W7.F.binds (ps := ["value"]) fun _ _ _ _ _ _ us hl => match us, hl with | [_], _ => rfl)
  have D8 : Def K mg "is_list_of" (top 11) ["value", "many"] f8 fd8 := W8.def X G (W8.F.binds (ps := ["value", "many"]) fun _ _ _ _ _ _ us hl => match us, hl with | [_, _], _ => rfl)
  have D9 : Def K mg "are_letters" (top 12) ["value"] f9 fd9 := W9.def X G (W9.F.binds (ps := ["value"]) fun _ _ _ _ _ _ us hl => match us, hl with | [_], _ => rfl)
  have DIS : Def K mg "is_state" (top 13) ["value", "states"] fIS fdIS := WIS.def X G (WIS.F.binds (ps := ["value", "states"]) fun _ _ _ _ _ _ us hl => match us, hl with | [_, _], _ => rfl)
  have D10 : Def K mg "are_states" (top 14) ["value", "many", "states"] f10 fd10 := W10.def X G (W10.F.binds (ps := ["value", "many", "states"]) fun _ _ _ _ _ _ us hl => match us, hl with | [_, _, _], _ => rfl)
  have D11 : Def K mg "are_truths" (top 15) ["value", "many"] f11 fd11 := W11.def X G (W11.F.binds (ps := ["value", "many"]) fun _ _ _ _ _ _ us hl => match us, hl with | [_, _], _ => rfl)
  have D12 : Def K mg "are_moves" (top 16) ["value", "many", "most"] f12 fd12 := W12.def X G (W12.F.binds (ps := ["value", "many", "most"]) fun _ _ _ _ _ _ us hl => match us, hl with | [_, _, _], _ => rfl)
  have D13 : Def K mg "are_middles" (top 17) ["value", "states", "many"] f13 fd13 := W13.def X G (W13.F.binds (ps := ["value", "states", "many"]) fun _ _ _ _ _ _ us hl => match us, hl with | [_, _, _], _ => rfl)
  have D14 : Def K mg "is_machine" (top 18) ["value"] f14 fd14 := W14.def X G (W14.F.binds (ps := ["value"]) fun _ _ _ _ _ _ us hl => match us, hl with | [_], _ => rfl)
  have DTO : Def K mg "is_text_of" (top 19) ["letters", "value"] fTO fdTO := WTO.def X G (WTO.F.binds (ps := ["letters", "value"]) fun _ _ _ _ _ _ us hl => match us, hl with | [_, _], _ => rfl)
  have D15 : Def K mg "check_machine" (top 20) ["machine"] f15 fd15 := W15.def X G (W15.F.binds (ps := ["machine"]) fun _ _ _ _ _ _ us hl => match us, hl with | [_], _ => rfl)
  have D16 : Def K mg "check_word" (top 21) ["letters", "word", "most"] f16 fd16 := W16.def X G (W16.F.binds (ps := ["letters", "word", "most"]) fun _ _ _ _ _ _ us hl => match us, hl with | [_, _, _], _ => rfl)
  have DCL : Def K mg "check_length" (top 22) ["long", "fewest", "most"] fCL fdCL := WCL.def X G (WCL.F.binds (ps := ["long", "fewest", "most"]) fun _ _ _ _ _ _ us hl => match us, hl with | [_, _, _], _ => rfl)
  have D21 : Def K mg "pair_at" (top 25) ["letters", "first", "last"] f21 fd21 := W21.def X G (W21.F.binds (ps := ["letters", "first", "last"]) fun _ _ _ _ _ _ us hl => match us, hl with | [_, _, _], _ => rfl)
  have D22 : Def K mg "state_behind" (top 26) ["machine", "left", "right"] f22 fd22 := W22.def X G (W22.F.binds (ps := ["machine", "left", "right"]) fun _ _ _ _ _ _ us hl => match us, hl with | [_, _, _], _ => rfl)
  have DRD : Def K mg "reads" (top 27) ["machine", "word"] fRD fdRD := WRD.def X G (WRD.F.binds (ps := ["machine", "word"]) fun _ _ _ _ _ _ us hl => match us, hl with | [_, _], _ => rfl)
  have D23 : Def K mg "has" (top 28) ["machine", "word"] f23 fd23 := W23.def X G (W23.F.binds (ps := ["machine", "word"]) fun _ _ _ _ _ _ us hl => match us, hl with | [_, _], _ => rfl)
  have DCI : Def K mg "counts_inside" (top 30) ["machine", "long"] fCI fdCI := WCI.def X G (WCI.F.binds (ps := ["machine", "long"]) fun _ _ _ _ _ _ us hl => match us, hl with | [_, _], _ => rfl)
  have DHM : Def K mg "how_many" (top 32) ["machine", "long"] fHM fdHM := WHM.def X G (WHM.F.binds (ps := ["machine", "long"]) fun _ _ _ _ _ _ us hl => match us, hl with | [_, _], _ => rfl)
  have DWB : Def K mg "word_by" (top 33) ["machine", "long", "number"] fWB fdWB := WWB.def X G (WWB.F.binds (ps := ["machine", "long", "number"]) fun _ _ _ _ _ _ us hl => match us, hl with | [_, _, _], _ => rfl)
  have DNO : Def K mg "number_of" (top 34) ["machine", "word"] fNO fdNO := WNO.def X G (WNO.F.binds (ps := ["machine", "word"]) fun _ _ _ _ _ _ us hl => match us, hl with | [_, _], _ => rfl)
  have D26 : Def K mg "_law_cell_at" (top 36) ["_law_script", "_law_k"] f26 fd26 := W26.def X G (W26.F.binds (ps := ["_law_script", "_law_k"]) fun _ _ _ _ _ _ us hl => match us, hl with | [_, _], _ => rfl)
  have D27 : Def K mg "_law_draw" (top 37) ["_law_cell", "_law_k", "_law_many"] f27 fd27 := W27.def X G (W27.F.binds (ps := ["_law_cell", "_law_k", "_law_many"]) fun _ _ _ _ _ _ us hl => match us, hl with | [_, _, _], _ => rfl)
  have D28 : Def K mg "_law_value" (top 38) ["_law_cell", "_law_turn"] f28 fd28 := W28.def X G (W28.F.binds (ps := ["_law_cell", "_law_turn"]) fun _ _ _ _ _ _ us hl => match us, hl with | [_, _], _ => rfl)
  have D31 : Def K mg "_law_machine" (top 39) ["_law_script", "_law_by", "_law_letters_here", "_law_most"] f31 fd31 := W31.def X G (W31.F.binds (ps := ["_law_script", "_law_by", "_law_letters_here", "_law_most"]) fun _ _ _ _ _ _ us hl => match us, hl with | [_, _, _, _], _ => rfl)
  have D32 : Def K mg "_law_letters" (top 40) ["_law_script"] f32 fd32 := W32.def X G (W32.F.binds (ps := ["_law_script"]) fun _ _ _ _ _ _ us hl => match us, hl with | [_], _ => rfl)
  have D33 : Def K mg "_law_copy" (top 41) ["_law_machine_here"] f33 fd33 := W33.def X G (W33.F.binds (ps := ["_law_machine_here"]) fun _ _ _ _ _ _ us hl => match us, hl with | [_], _ => rfl)
  have D34 : Def K mg "_law_has" (top 42) ["_law_machine_here", "_law_word", "_law_state"] f34 fd34 := W34.def X G (W34.F.binds (ps := ["_law_machine_here", "_law_word", "_law_state"]) fun _ _ _ _ _ _ us hl => match us, hl with | [_, _, _], _ => rfl)
  have D35 : Def K mg "_law_texts" (top 43) ["_law_letters_here", "_law_long"] f35 fd35 := W35.def X G (W35.F.binds (ps := ["_law_letters_here", "_law_long"]) fun _ _ _ _ _ _ us hl => match us, hl with | [_, _], _ => rfl)
  have D37 : Def K mg "_law_drawn" (top 44) ["_law_script", "_law_by", "_law_letters_here", "_law_most"] f37 fd37 := W37.def X G (W37.F.binds (ps := ["_law_script", "_law_by", "_law_letters_here", "_law_most"]) fun _ _ _ _ _ _ us hl => match us, hl with | [_, _, _, _], _ => rfl)
  have DWY : Def K mg "_law_ways" (top 45) ["_law_machine_here", "_law_long", "_law_begin", "_law_spot", "_law_known"] fWY fdWY := WWY.def X G (WWY.F.binds (ps := ["_law_machine_here", "_law_long", "_law_begin", "_law_spot", "_law_known"]) fun _ _ _ _ _ _ us hl => match us, hl with | [_, _, _, _, _], _ => rfl)
  have DLE : Def K mg "_law_lesser" (top 46) ["_law_machine_here", "_law_word"] fLE fdLE := WLE.def X G (WLE.F.binds (ps := ["_law_machine_here", "_law_word"]) fun _ _ _ _ _ _ us hl => match us, hl with | [_, _], _ => rfl)
  have D39 : Def K mg "law" (top 47) ["_law_script"] fa fd39 := W39.def X G (W39.F.binds (ps := ["_law_script"]) fun _ _ _ _ _ _ us hl => match us, hl with | [_], _ => rfl)
  have kB : Kl K mg "Beginning" CB := WB.kl X G
  have bBi : Binds K fdBi ["self", "machine", "long"] [] := WBi.F.binds (ps := ["self", "machine", "long"]) fun _ _ _ _ _ _ us hl => match us, hl with | [_, _, _], _ => rfl
  have MIB : Mk K CB fBi := ⟨WB.mk_, WBi.M.at_, WBi.M.fn, WB.kc⟩
  have bBlh : Binds K fdBlh ["self"] [] := WBlh.F.binds (ps := ["self"]) fun _ _ _ _ _ _ us hl => match us, hl with | [_], _ => rfl
  have bBrp : Binds K fdBrp ["self", "first"] [] := WBrp.F.binds (ps := ["self", "first"]) fun _ _ _ _ _ _ us hl => match us, hl with | [_, _], _ => rfl
  have bBsh : Binds K fdBsh ["self"] [] := WBsh.F.binds (ps := ["self"]) fun _ _ _ _ _ _ us hl => match us, hl with | [_], _ => rfl
  have bBco : Binds K fdBco ["self"] [] := WBco.F.binds (ps := ["self"]) fun _ _ _ _ _ _ us hl => match us, hl with | [_], _ => rfl
  have bBta : Binds K fdBta ["self", "place"] [] := WBta.F.binds (ps := ["self", "place"]) fun _ _ _ _ _ _ us hl => match us, hl with | [_, _], _ => rfl
  have bBwb : Binds K fdBwb ["self", "place"] [] := WBwb.F.binds (ps := ["self", "place"]) fun _ _ _ _ _ _ us hl => match us, hl with | [_, _], _ => rfl
  refine ⟨fd39, hbl, fun base _ _ => ?_⟩
  have G9 := ok_areletters (P := l.prog) (w := w) (base := base) D9 T C
  have GIS := ok_isstate (P := l.prog) (w := w) (base := base) DIS T D7
  have G10 := ok_arestates (P := l.prog) (w := w) (base := base) D10 T DIS GIS D8
  have G11 := ok_aretruths (P := l.prog) (w := w) (base := base) D11 T D8
  have G12 := ok_aremoves (P := l.prog) (w := w) (base := base) D12 T D10 G10
  have G13 := ok_aremiddles (P := l.prog) (w := w) (base := base) D13 T D8 D11
  have G14 := ok_ismachine (P := l.prog) (w := w) (base := base) D14 T C D9 G9 D12 G12 D11 G11 D13 G13
  have G15 := ok_checkmachine (P := l.prog) (w := w) (base := base) D15 D14 G14
  have GTO := ok_istextof (P := l.prog) (w := w) (base := base) DTO T
  have G16 := ok_checkword (P := l.prog) (w := w) (base := base) D16 T DTO
  have G22 := ok_statebehind (P := l.prog) (w := w) (base := base) D22 T D21
  have GRD := ok_reads (P := l.prog) (w := w) (base := base) DRD T D22 G22
  have G23 := ok_has (P := l.prog) (w := w) (base := base) D23 C D15 G15 D16 G16 DRD GRD
  have G7 := ok_isnumber (P := l.prog) (w := w) (base := base) D7 T
  have GCL := ok_checklength (P := l.prog) (w := w) (base := base) DCL T D7 G7
  have GCI := ok_countsin (P := l.prog) (w := w) (base := base) DCI T Tsum
  have GHM := ok_howmany (P := l.prog) (w := w) (base := base) DHM T C D15 G15 DCL GCL DCI GCI
  have GBi := ok_initBeg (P := l.prog) (w := w) (base := base) WBi.F T kB.cl n_B_machine n_B_long n_B_places n_B_inside n_B_ways n_B_rest DCI GCI
  have GLh := ok_leftB (P := l.prog) (w := w) (base := base) WBlh.F T kB.cl n_B_long n_B_places
  have GRp := ok_rowP (P := l.prog) (w := w) (base := base) WBrp.F T kB.cl n_B_machine
  have GSh := ok_sharesB (P := l.prog) (w := w) (base := base) WBsh.F T Tsum kB n_B_machine n_B_long n_B_places n_B_inside n_B_ways n_B_rest WBlh.M GLh bBlh WBrp.M GRp bBrp
  have GCo := ok_countsB (P := l.prog) (w := w) (base := base) WBco.F T Tsum Tmin kB n_B_machine n_B_long n_B_places n_B_inside n_B_ways n_B_rest WBsh.M GSh bBsh
  have GWw := ok_waysB (P := l.prog) (w := w) (base := base) WBwb.F T kB n_B_machine n_B_long n_B_places n_B_inside n_B_ways n_B_rest WBrp.M GRp bBrp
  have GTa := ok_takeB (P := l.prog) (w := w) (base := base) WBta.F T kB n_B_machine n_B_long n_B_places n_B_inside n_B_ways n_B_rest WBlh.M GLh bBlh WBsh.M GSh bBsh WBwb.M GWw bBwb
  have GWB := ok_wordby (P := l.prog) (w := w) (base := base) DWB T DHM GHM D7 G7 kB MIB GBi bBi WBco.M GCo bBco WBta.M GTa bBta
  have GNO := ok_numberof (P := l.prog) (w := w) (base := base) DNO T Tsum D23 G23 kB MIB GBi bBi WBco.M GCo bBco WBta.M GTa bBta
  have G26 := ok_cell (P := l.prog) (w := w) (base := base) D26 T
  have G28 := ok_value (P := l.prog) (w := w) (base := base) D28 D27
  have G31 := ok_machine (P := l.prog) (w := w) (base := base) D31 T D26 G26 D28 G28
  have G32 := ok_letters (P := l.prog) (w := w) (base := base) D32 D26 G26 D28 G28
  have G33 := ok_copy (P := l.prog) (w := w) (base := base) D33 T
  have G34 := ok_lhas (P := l.prog) (w := w) (base := base) D34 T
  have G35 := ok_textsX (P := l.prog) (w := w) (base := base) D35 T
  have G37 := ok_drawn (P := l.prog) (w := w) (base := base) D37 T D26 G26 D28 G28
  have GWY := ok_ways (P := l.prog) (w := w) (base := base) DWY T 10
  have GLE := ok_lesser (P := l.prog) (w := w) (base := base) DLE T DWY GWY
  exact ok_law D39 T Tsorted Tset Tmin DHM GHM DWB GWB DNO GNO D31 G31 D32 G32 D33 G33 D28 G28 D26 G26 D35 G35 D34 G34 DLE GLE D37 G37
theorem walk {l : PySem.W.OpenLaw} {q : Program} {loose : List Str} {XP : (Str → Option Value) → Heap → Prop} {YP : World → Heap → Prop} {d : DefRec} {K : Params → PySem.W.Frag} (hn : l.most = some 63) (hdf : d.params.defaults = [])
    (hY : ∀ (w : World) (h : Heap), YP w h → (K w.params).In h)
    (F : ∀ (w : World) (mg : Str → Option Value) (fa : Addr) (h : Heap), (K w.params).In h → h.Ns mainGlobals mg → mg d.name = some (.ref fa) →
      ∃ fd : FuncData, (∀ (s : Shared) (u : Value), BindsTo s fd ⟨[u], []⟩ [("_law_script", u)]) ∧ ∀ base : Heap, (K w.params).In base → base.Ns mainGlobals mg → FnOk l.prog w (K w.params) mg base CX0 13 fa fd ["_law_script"] (spLaw (K w.params))) :
    PySem.W.WalkO q loose XP YP l.row.toRowW d [] (fun f vs => PySem.call f vs) :=
  L2.walk_of (n := 63) (k := 13) (x := "_law_script") (CX := fun _ => CX0) (sp := fun w => spLaw (K w.params)) hn (by decide) hdf ⟨rfl, by decide, by decide⟩ hY F (fun _ _ a ns hl _ hS => ⟨a, ns, rfl, hS, hl, fun _ => rfl⟩) fun _ _ _ _ _ z => z
end Be

open PySem PySem.W PyProof.Rows
set_option maxRecDepth 100000 in
set_option maxHeartbeats 0 in
theorem PySem.Challenge.cw_bothends_k09_whole_numbers_holds : PySem.Challenge.rw_bothends_k09_whole_numbers.Holds := by
  w_on; o_law; k_head; (case hw => w_witness2)
  k_fill
  refine Be.walk (l := PySem.Challenge.rw_bothends_k09_whole_numbers) rfl rfl (fun w h Y => PySem.W.kIn_of Y) ?F
  case F =>
    intro w mg fa h KX G hmg
    refine' Be.all_mk KX G hmg (Be.Wr.mk' ?a7 ?l7 ?c7 ?k7) (Be.Wr.mk' ?a8 ?l8 ?c8 ?k8) (Be.Wr.mk' ?a9 ?l9 ?c9 ?k9) (Be.Wr.mk' ?aIS ?lIS ?cIS ?kIS) (Be.Wr.mk' ?a10 ?l10 ?c10 ?k10) (Be.Wr.mk' ?a11 ?l11 ?c11 ?k11) (Be.Wr.mk' ?a12 ?l12 ?c12 ?k12) (Be.Wr.mk' ?a13 ?l13 ?c13 ?k13) (Be.Wr.mk' ?a14 ?l14 ?c14 ?k14) (Be.Wr.mk' ?aTO ?lTO ?cTO ?kTO) (Be.Wr.mk' ?a15 ?l15 ?c15 ?k15) (Be.Wr.mk' ?a16 ?l16 ?c16 ?k16) (Be.Wr.mk' ?aCL ?lCL ?cCL ?kCL) (Be.Wr.mk' ?a21 ?l21 ?c21 ?k21) (Be.Wr.mk' ?a22 ?l22 ?c22 ?k22) (Be.Wr.mk' ?aRD ?lRD ?cRD ?kRD) (Be.Wr.mk' ?a23 ?l23 ?c23 ?k23) (Be.Wr.mk' ?aCI ?lCI ?cCI ?kCI) (Be.Wr.mk' ?aHM ?lHM ?cHM ?kHM) (Be.Wr.mk' ?aWB ?lWB ?cWB ?kWB) (Be.Wr.mk' ?aNO ?lNO ?cNO ?kNO) (Be.Wr.mk' ?a26 ?l26 ?c26 ?k26) (Be.Wr.mk' ?a27 ?l27 ?c27 ?k27) (Be.Wr.mk' ?a28 ?l28 ?c28 ?k28) (Be.Wr.mk' ?a31 ?l31 ?c31 ?k31) (Be.Wr.mk' ?a32 ?l32 ?c32 ?k32) (Be.Wr.mk' ?a33 ?l33 ?c33 ?k33) (Be.Wr.mk' ?a34 ?l34 ?c34 ?k34) (Be.Wr.mk' ?a35 ?l35 ?c35 ?k35) (Be.Wr.mk' ?a37 ?l37 ?c37 ?k37) (Be.Wr.mk' ?aWY ?lWY ?cWY ?kWY) (Be.Wr.mk' ?aLE ?lLE ?cLE ?kLE) (Be.Wr.mk' ?a39 ?l39 ?c39 ?k39) ⟨?a_B, ?pg_B, ?hd_B, ?po_B, ?sa_B, ?cA_B, ?cN_B, ?cT_B, ?cM_B, ?mk__B, ?kc_B⟩ (Be.WrM.mk' ?a_Bi ?i_Bi ?l_Bi ?c_Bi ?k_Bi) (Be.WrM.mk' ?a_Blh ?i_Blh ?l_Blh ?c_Blh ?k_Blh) (Be.WrM.mk' ?a_Brp ?i_Brp ?l_Brp ?c_Brp ?k_Brp) (Be.WrM.mk' ?a_Bsh ?i_Bsh ?l_Bsh ?c_Bsh ?k_Bsh) (Be.WrM.mk' ?a_Bco ?i_Bco ?l_Bco ?c_Bco ?k_Bco) (Be.WrM.mk' ?a_Bta ?i_Bta ?l_Bta ?c_Bta ?k_Bta) (Be.WrM.mk' ?a_Bwb ?i_Bwb ?l_Bwb ?c_Bwb ?k_Bwb) ?n_B_machine ?n_B_long ?n_B_places ?n_B_inside ?n_B_ways ?n_B_rest  ?q_ml ?q_ms ?q_mw ?z_isinstance ?z_int ?z_bool ?z_str ?z_list ?z_tuple ?z_len ?z_all ?z_zip ?z_range ?z_max ?z_enumerate ?z_sum ?z_min ?z_sorted ?z_set   ?hb
    (case a7 => k_is); (case l7 => k_is); (case c7 => k_is); (case k7 => k_is)
    (case a8 => k_is); (case l8 => k_is); (case c8 => k_is); (case k8 => k_is)
    (case a9 => k_is); (case l9 => k_is); (case c9 => k_is); (case k9 => k_is)
    (case aIS => k_is); (case lIS => k_is); (case cIS => k_is); (case kIS => k_is)
    (case a10 => k_is); (case l10 => k_is); (case c10 => k_is); (case k10 => k_is)
    (case a11 => k_is); (case l11 => k_is); (case c11 => k_is); (case k11 => k_is)
    (case a12 => k_is); (case l12 => k_is); (case c12 => k_is); (case k12 => k_is)
    (case a13 => k_is); (case l13 => k_is); (case c13 => k_is); (case k13 => k_is)
    (case a14 => k_is); (case l14 => k_is); (case c14 => k_is); (case k14 => k_is)
    (case aTO => k_is); (case lTO => k_is); (case cTO => k_is); (case kTO => k_is)
    (case a15 => k_is); (case l15 => k_is); (case c15 => k_is); (case k15 => k_is)
    (case a16 => k_is); (case l16 => k_is); (case c16 => k_is); (case k16 => k_is)
    (case aCL => k_is); (case lCL => k_is); (case cCL => k_is); (case kCL => k_is)
    (case a21 => k_is); (case l21 => k_is); (case c21 => k_is); (case k21 => k_is)
    (case a22 => k_is); (case l22 => k_is); (case c22 => k_is); (case k22 => k_is)
    (case aRD => k_is); (case lRD => k_is); (case cRD => k_is); (case kRD => k_is)
    (case a23 => k_is); (case l23 => k_is); (case c23 => k_is); (case k23 => k_is)
    (case aCI => k_is); (case lCI => k_is); (case cCI => k_is); (case kCI => k_is)
    (case aHM => k_is); (case lHM => k_is); (case cHM => k_is); (case kHM => k_is)
    (case aWB => k_is); (case lWB => k_is); (case cWB => k_is); (case kWB => k_is)
    (case aNO => k_is); (case lNO => k_is); (case cNO => k_is); (case kNO => k_is)
    (case a26 => k_is); (case l26 => k_is); (case c26 => k_is); (case k26 => k_is)
    (case a27 => k_is); (case l27 => k_is); (case c27 => k_is); (case k27 => k_is)
    (case a28 => k_is); (case l28 => k_is); (case c28 => k_is); (case k28 => k_is)
    (case a31 => k_is); (case l31 => k_is); (case c31 => k_is); (case k31 => k_is)
    (case a32 => k_is); (case l32 => k_is); (case c32 => k_is); (case k32 => k_is)
    (case a33 => k_is); (case l33 => k_is); (case c33 => k_is); (case k33 => k_is)
    (case a34 => k_is); (case l34 => k_is); (case c34 => k_is); (case k34 => k_is)
    (case a35 => k_is); (case l35 => k_is); (case c35 => k_is); (case k35 => k_is)
    (case a37 => k_is); (case l37 => k_is); (case c37 => k_is); (case k37 => k_is)
    (case aWY => k_is); (case lWY => k_is); (case cWY => k_is); (case kWY => k_is)
    (case aLE => k_is); (case lLE => k_is); (case cLE => k_is); (case kLE => k_is)
    (case a39 => k_is); (case l39 => k_is); (case c39 => k_is); (case k39 => k_is)
    (case a_B => first | k_is | kernel_rfl); (case pg_B => first | k_is | kernel_rfl); (case hd_B => first | k_is | kernel_rfl); (case po_B => first | k_is | kernel_rfl); (case sa_B => first | k_is | kernel_rfl); (case cA_B => first | k_is | kernel_rfl); (case cN_B => first | k_is | kernel_rfl); (case cT_B => first | k_is | kernel_rfl); (case cM_B => first | k_is | kernel_rfl); (case mk__B => first | k_is | kernel_rfl); (case kc_B => first | k_is | kernel_rfl)
    (case a_Bi => k_is); (case i_Bi => k_is); (case l_Bi => k_is); (case c_Bi => k_is); (case k_Bi => k_is)
    (case a_Blh => k_is); (case i_Blh => k_is); (case l_Blh => k_is); (case c_Blh => k_is); (case k_Blh => k_is)
    (case a_Brp => k_is); (case i_Brp => k_is); (case l_Brp => k_is); (case c_Brp => k_is); (case k_Brp => k_is)
    (case a_Bsh => k_is); (case i_Bsh => k_is); (case l_Bsh => k_is); (case c_Bsh => k_is); (case k_Bsh => k_is)
    (case a_Bco => k_is); (case i_Bco => k_is); (case l_Bco => k_is); (case c_Bco => k_is); (case k_Bco => k_is)
    (case a_Bta => k_is); (case i_Bta => k_is); (case l_Bta => k_is); (case c_Bta => k_is); (case k_Bta => k_is)
    (case a_Bwb => k_is); (case i_Bwb => k_is); (case l_Bwb => k_is); (case c_Bwb => k_is); (case k_Bwb => k_is)
    (case n_B_machine => k_is); (case n_B_long => k_is); (case n_B_places => k_is); (case n_B_inside => k_is); (case n_B_ways => k_is); (case n_B_rest => k_is)
    (case q_ml => k_is); (case q_ms => k_is); (case q_mw => k_is)
    (case z_isinstance => k_is); (case z_int => k_is); (case z_bool => k_is); (case z_str => k_is); (case z_list => k_is); (case z_tuple => k_is); (case z_len => k_is); (case z_all => k_is); (case z_zip => k_is); (case z_range => k_is); (case z_max => k_is); (case z_enumerate => k_is); (case z_sum => k_is); (case z_min => k_is); (case z_sorted => k_is); (case z_set => k_is)
    case hb => exact fun s v => .of_eq rfl
