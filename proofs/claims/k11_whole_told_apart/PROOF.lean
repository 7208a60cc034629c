import PyProof.Rows.All
import Wide.All
import OpenK.AllK
import Wide.FinOn
import PyProof.EqAt
import PyProof.EqKinds
import PyProof.TupleCall
import KE.BitLaws
import PyProof.Rows.SetFrom
import PyProof.SetRoads
import PyProof.CollectIter
import KE.KSortTup
import PyProof.StrBlock2
import OpenK.KMake
import PySem.Challenge.RW_bothends_k11_whole_told_apart
set_option Elab.async false
set_option linter.all false
set_option maxRecDepth 100000
/-! THE HAND LAYER, for ints, bools, texts, own classes, lists, tuples, dicts, comprehensions, walks over dicts, enumerate, zip, reversed, texts, calls, loops. Paste it whole ahead of your own text; what your proof does not reach may be deleted. -/
namespace L2
open PySem PySem.Spec PyProof.Rows

/-- a key: an int or a str -/
abbrev Key := Sum Int Str
def keyIs : Key → Value → Bool
  | .inl k, v => Value.isInt k v
  | .inr x, v => Value.isStrOf x v
def keyH (w : World) : Key → Int
  | .inl k => hashInt k
  | .inr x => hashStr w x
theorem keyIs_shape : ∀ {k : Key} {v : Value}, keyIs k v = true → (∃ i t, k = Sum.inl i ∧ v = Value.int i t) ∨ (∃ x t, k = Sum.inr x ∧ v = Value.str x t)
  | .inl i, v, h => by
    obtain ⟨t, e⟩ := Value.isInt_shape (k := i) (v := v) h
    exact .inl ⟨i, t, rfl, e⟩
  | .inr x, v, h => by
    obtain ⟨t, e⟩ := Value.isStrOf_shape (x := x) (v := v) h
    exact .inr ⟨x, t, rfl, e⟩
theorem key_ll (a b : Int) : decide ((Sum.inl a : Key) = Sum.inl b) = (a == b) := by
  by_cases e : a = b
  · subst e; simp
  · have h : ¬ (Sum.inl a : Key) = Sum.inl b := fun q => e (Sum.inl.inj q)
    rw [decide_eq_false h]
    exact (beq_eq_false_iff_ne.mpr e).symm
theorem key_rr (a b : Str) : decide ((Sum.inr a : Key) = Sum.inr b) = decide (a = b) := by
  by_cases e : a = b
  · subst e; simp
  · have h : ¬ (Sum.inr a : Key) = Sum.inr b := fun q => e (Sum.inr.inj q)
    rw [decide_eq_false h, decide_eq_false e]
theorem key_lr (a : Int) (b : Str) : decide ((Sum.inl a : Key) = Sum.inr b) = false := decide_eq_false (fun q => nomatch q)
theorem key_rl (a : Str) (b : Int) : decide ((Sum.inr a : Key) = Sum.inl b) = false := decide_eq_false (fun q => nomatch q)

def mixKind (prog : Program) (w : World) : PySem.KeyKind prog w Key where
  is := keyIs
  hash := keyH w
  inj := fun v a b ha hb => by
    rcases keyIs_shape ha with ⟨i, t, rfl, rfl⟩ | ⟨x, t, rfl, rfl⟩
    · rcases keyIs_shape hb with ⟨j, u, rfl, e⟩ | ⟨y, u, rfl, e⟩
      · injection e with e1 _; rw [e1]
      · exact nomatch e
    · rcases keyIs_shape hb with ⟨j, u, rfl, e⟩ | ⟨y, u, rfl, e⟩
      · exact nomatch e
      · injection e with e1 _; rw [e1]
  byValue := fun k v h => by
    rcases keyIs_shape h with ⟨i, t, rfl, rfl⟩ | ⟨x, t, rfl, rfl⟩ <;> rfl
  pyHash := fun hv h => by
    rcases keyIs_shape hv with ⟨i, t, rfl, rfl⟩ | ⟨x, t, rfl, rfl⟩
    · exact wpAny_pyHash_int h
    · exact wpAny_pyHash_str h
  eqBool := fun hu hv h => by
    rcases keyIs_shape hu with ⟨i, t, rfl, rfl⟩ | ⟨x, t, rfl, rfl⟩
    · rcases keyIs_shape hv with ⟨j, u, rfl, rfl⟩ | ⟨y, u, rfl, rfl⟩
      · rw [key_ll] at h; exact wpAny_eqBool_int h
      · rw [key_lr] at h; exact SeqAt.EqAt.int_str i t y u _ _ _ _ h
    · rcases keyIs_shape hv with ⟨j, u, rfl, rfl⟩ | ⟨y, u, rfl, rfl⟩
      · rw [key_rl] at h; exact SeqAt.EqAt.str_int x t j u _ _ _ _ h
      · rw [key_rr] at h; exact wpAny_eqBool_str h
  «strs» := fun k x t v h => by
    rcases keyIs_shape h with ⟨i, u, rfl, e⟩ | ⟨y, u, rfl, e⟩
    · exact nomatch e
    · injection e with e1 _
      subst e1
      cases v <;> rfl

end L2

namespace L2
open PySem PySem.Spec PyProof.Rows

/-- a value, without the heap -/
inductive V where
  | non | bl (b : Bool) | int (i : Int) | str (x : Str) | byt (b : Array UInt8) | flt (b : UInt64) | ref (a : Addr) | ty (n : String)
  deriving DecidableEq

def RelV : V → Value → Prop
  | .non, u => u = Value.none
  | .bl b, u => u = Value.bool b
  | .int i, u => ∃ t, u = Value.int i t
  | .str x, u => ∃ t, u = Value.str x t
  | .byt b, u => ∃ t, u = Value.bytes b t
  | .flt b, u => ∃ t, u = Value.float b t
  | .ref a, u => u = Value.ref a
  | .ty n, u => u = Value.type n

abbrev Vals : List V → List Value → Prop := Paired RelV
theorem Vals.length {xs : List V} {us : List Value} (r : Vals xs us) : xs.length = us.length := Paired.length r
theorem Vals.get : ∀ {xs : List V} {us : List Value} {i : Nat} {x : V}, Vals xs us → xs[i]? = some x → ∃ u, us[i]? = some u ∧ RelV x u
  | _, _, _, _, .nil, e => by simp at e
  | _, _, 0, _, .cons r _, e => by simp at e; subst e; exact ⟨_, rfl, r⟩
  | _, _, i + 1, x, .cons _ t, e => by
    obtain ⟨u, h1, h2⟩ := Vals.get (i := i) (x := x) t (by simpa using e)
    exact ⟨u, by simpa using h1, h2⟩
theorem Vals.set {x : V} {u : Value} (r : RelV x u) : ∀ {xs : List V} {us : List Value} (i : Nat), Vals xs us → Vals (xs.set i x) (us.set i u)
  | _, _, _, .nil => .nil
  | _, _, 0, .cons _ t => .cons r t
  | _, _, i + 1, .cons q t => .cons q (Vals.set r i t)
theorem Vals.append : ∀ {xs ys : List V} {us ws : List Value}, Vals xs us → Vals ys ws → Vals (xs ++ ys) (us ++ ws)
  | _, _, _, _, .nil, s => s
  | _, _, _, _, .cons r t, s => .cons r (Vals.append t s)
theorem Vals.take : ∀ {xs : List V} {us : List Value} (n : Nat), Vals xs us → Vals (xs.take n) (us.take n)
  | _, _, 0, _ => .nil
  | _, _, _ + 1, .nil => .nil
  | _, _, n + 1, .cons r t => .cons r (Vals.take n t)
theorem Vals.drop : ∀ {xs : List V} {us : List Value} (n : Nat), Vals xs us → Vals (xs.drop n) (us.drop n)
  | _, _, 0, r => r
  | _, _, _ + 1, .nil => .nil
  | _, _, n + 1, .cons _ t => Vals.drop n t
theorem Vals.none_of : ∀ {xs : List V} {us : List Value} {i : Nat}, Vals xs us → xs[i]? = none → us[i]? = none := fun {xs us i} r e => by
  have h1 := r.length
  have h2 : xs.length ≤ i := List.getElem?_eq_none_iff.mp e
  exact List.getElem?_eq_none_iff.mpr (by omega)

def RelO : Option V → Option Value → Prop
  | some v, some u => RelV v u
  | none, none => True
  | _, _ => False
def KV {κ : Type} : List (κ × V) → List (κ × Value) → Prop := Paired fun (p : κ × V) (q : κ × Value) => p.1 = q.1 ∧ RelV p.2 q.2

/-- a key of a dict (00_mix): an int or a text -/
def kV : Key → V
  | .inl i => .int i
  | .inr x => .str x

/-- what stands at a tracked address -/
inductive HO where
  /-- a list -/
  | lst (xs : List V)
  /-- a tuple (never changes) -/
  | tup (xs : List V)
  /-- a dict whose keys are ints and texts; one whose keys are tuples of ints and texts (the empty one is both) -/
  | dK (kvs : List (Key × V)) | dT (kvs : List (List Key × V))
  /-- a set of ints: its members, its size -/
  | set (S : Int → Bool) (n : Nat)
  /-- an instance of the class at C, its dict at dx, its attributes -/
  | ins (C dx : Addr) (fs : List (Str × V))
  /-- the dict of the instance at x -/
  | own (x : Addr)
  /-- the dict of an exception -/
  | xd (fs : List (Str × V))
  /-- a bound method, f of x -/
  | met (f x : Addr)
  /-- a range object lo, lo + 1, .. below hi -/
  | rng (lo hi : Int)
  /-- a thing that is known to the object (the script; a dict while a loop walks it): read, never written while it is so -/
  | frz (o : Obj) (u : HO)
  /-- a code object's table -/
  | tbl (ps : Array Value)
  /-- any other thing, by what is true of its one object (a def of one's own: SetO a S n := HO.ext fun h => ..) -/
  | ext (φ : Heap → Prop)

abbrev Hp := Addr → Option HO
def upd (H : Hp) (a : Addr) (o : HO) : Hp := fun b => if b = a then some o else H b
theorem upd_same {H : Hp} {a : Addr} {o : HO} : upd H a o a = some o := by unfold upd; rw [if_pos rfl]
theorem upd_ne {H : Hp} {a b : Addr} {o : HO} (h : b ≠ a) : upd H a o b = H b := by unfold upd; rw [if_neg h]
/-- two objects of different content stand apart -/
theorem ne_of {H : Hp} {a b : Addr} {o u : HO} (h : H a = some o) (h' : H b = some u) (d : o ≠ u) : a ≠ b := by
  intro e; subst e; rw [h] at h'; exact d (Option.some.inj h')
theorem ne_of_none {H : Hp} {a b : Addr} {o : HO} (h : H a = some o) (h' : H b = none) : a ≠ b := by
  intro e; subst e; rw [h] at h'; cases h'

section
variable (P : Program) (w : World)
def ObjOk (H : Hp) (h : Heap) (a : Addr) : HO → Prop
  | .lst xs => xs.length ≤ sizeLine ∧ ∃ (its : List Value) (n : Nat), Vals xs its ∧ h.get? a = some { cls := .type "list", data := .seq its.toArray n }
  | .tup xs => xs.length ≤ sizeLine ∧ ∃ its : List Value, Vals xs its ∧ IsTup h a its.toArray
  | .dK kvs => kvs.length ≤ sizeLine ∧ (a == sysModules) = false ∧ ∃ vs, KV kvs vs ∧ h.DictOf (mixKind P w) a vs
  | .dT kvs => kvs.length ≤ sizeLine ∧ (a == sysModules) = false ∧ ∃ xs : List (List Key × Addr × Value),
      Paired (fun (p : List Key × V) (q : List Key × Addr × Value) => p.1 = q.1 ∧ H q.2.1 = some (.tup (p.1.map kV)) ∧ RelV p.2 q.2.2) kvs xs ∧
      ∃ o es ep, h.get? a = some o ∧ o.ExactDict ∧ o.data = .dict es ep ∧ es.toList = xs.map (entryOfKey (tupleKind (mixKind P w))) ∧ (xs.map (·.1)).Nodup
  | .set S n => h.SetOf (intKind P w) a S n
  | .ins C dx fs => H dx = some (.own a) ∧ fs.length ≤ 1000 ∧ dx ≠ a ∧ h.get? a = some (PySem.W.instObj C dx) ∧
      ∃ mA, h.Ns1 dx mA ∧ (∀ f, RelO (fs.lookup f) (mA f)) ∧ PySem.Within mA (fs.map (·.1))
  | .own _ => ∃ o, h.get? a = some o
  | .xd fs => ∃ mA, h.Ns1 a mA ∧ ∀ f, RelO (fs.lookup f) (mA f)
  | .rng lo hi => ∃ t u v, h.get? a = some { cls := .type "range", data := .fields #[.int lo t, .int hi u, .int 1 v] }
  | .frz o u => h.get? a = some o ∧ ObjOk H h a u
  | .tbl ps => h.get? a = some { cls := .none, data := .fields ps }
  | .met f x => h.get? a = some (PySem.W.methodObj (.ref f) (.ref x))
  | .ext φ => φ h ∧ (∃ o, h.get? a = some o) ∧ ∀ h1 h2 : Heap, φ h1 → (∀ o, h1.get? a = some o → h2.get? a = some o) → φ h2
/-- the abstract heap is held -/
def HOk (H : Hp) (h : Heap) : Prop := ∀ a o, H a = some o → ObjOk P w H h a o
end

section
variable {P : Program} {w : World} {H H' : Hp} {h h' : Heap} {a : Addr} {o : HO}
theorem ObjOk.lt (x : ObjOk P w H h a o) : a < h.objs.size := by
  cases o with
  | lst xs => obtain ⟨_, _, _, _, e⟩ := x; exact Heap.lt_size e
  | tup xs => obtain ⟨_, _, _, p⟩ := x; exact p.lt
  | dK kvs => obtain ⟨_, _, _, _, o, _, _, e, _⟩ := x; exact Heap.lt_size e
  | dT kvs => obtain ⟨_, _, _, _, o, _, _, e, _⟩ := x; exact Heap.lt_size e
  | set S n => obtain ⟨o, _, _, _, e, _⟩ := x; exact Heap.lt_size e
  | ins C dx fs => obtain ⟨_, _, _, e, _⟩ := x; exact Heap.lt_size e
  | own y => obtain ⟨_, e⟩ := x; exact Heap.lt_size e
  | xd fs => obtain ⟨_, ⟨_, _, _, e, _⟩, _⟩ := x; exact Heap.lt_size e
  | rng lo hi => obtain ⟨_, _, _, e⟩ := x; exact Heap.lt_size e
  | frz ob u => obtain ⟨e, _⟩ := x; exact Heap.lt_size e
  | tbl ps => exact Heap.lt_size (show h.get? a = some _ from x)
  | met f y => exact Heap.lt_size (show h.get? a = some _ from x)
  | ext φ => obtain ⟨_, ⟨_, e⟩, _⟩ := x; exact Heap.lt_size e
theorem Paired.mapP {α β : Type} {F G : α → β → Prop} : ∀ {l₁ : List α} {l₂ : List β}, Paired F l₁ l₂ → (∀ a b, F a b → G a b) → Paired G l₁ l₂
  | _, _, .nil, _ => .nil
  | _, _, .cons r t, f => .cons (f _ _ r) (Paired.mapP t f)
/-- what an object's description leans on: its own object, its own dict, the tuples -/
theorem ObjOk.stay (x : ObjOk P w H h a o) (k : ∀ b u, (b = a ∨ H b = some (.own a)) → h.get? b = some u → h'.get? b = some u)
    (ho : ∀ b, H b = some (.own a) → H' b = some (.own a)) (ht : ∀ b xs, H b = some (.tup xs) → H' b = some (.tup xs)) : ObjOk P w H' h' a o := by
  induction o with
  | lst xs => obtain ⟨z, its, n, r, e⟩ := x; exact ⟨z, its, n, r, k _ _ (.inl rfl) e⟩
  | tup xs => obtain ⟨z, its, r, ob, e, c⟩ := x; exact ⟨z, its, r, ob, k _ _ (.inl rfl) e, c⟩
  | dK kvs => obtain ⟨z, y, vs, r, ob, es, ep, e, c⟩ := x; exact ⟨z, y, vs, r, ob, es, ep, k _ _ (.inl rfl) e, c⟩
  | dT kvs =>
    obtain ⟨z, y, xs, r, ob, es, ep, e, c⟩ := x
    exact ⟨z, y, xs, Paired.mapP r fun p q z => ⟨z.1, ht _ _ z.2.1, z.2.2⟩, ob, es, ep, k _ _ (.inl rfl) e, c⟩
  | set S n => obtain ⟨ob, es, ep, t, e, c⟩ := x; exact ⟨ob, es, ep, t, k _ _ (.inl rfl) e, c⟩
  | ins C dx fs =>
    obtain ⟨d, z, ne, e, mA, ⟨od, es, ep, e2, c⟩, r⟩ := x
    exact ⟨ho _ d, z, ne, k _ _ (.inl rfl) e, mA, ⟨od, es, ep, k _ _ (.inr d) e2, c⟩, r⟩
  | own y => obtain ⟨ob, e⟩ := x; exact ⟨ob, k _ _ (.inl rfl) e⟩
  | xd fs => obtain ⟨mA, ⟨od, es, ep, e, c⟩, r⟩ := x; exact ⟨mA, ⟨od, es, ep, k _ _ (.inl rfl) e, c⟩, r⟩
  | rng lo hi => obtain ⟨t, u, v, e⟩ := x; exact ⟨t, u, v, k _ _ (.inl rfl) e⟩
  | frz ob u ih => obtain ⟨e, q⟩ := x; exact ⟨k _ _ (.inl rfl) e, ih q⟩
  | tbl ps =>
    have e : h.get? a = some { cls := .none, data := .fields ps } := x
    show h'.get? a = some { cls := .none, data := .fields ps }
    exact k a _ (.inl rfl) e
  | met f y =>
    have e : h.get? a = some (PySem.W.methodObj (.ref f) (.ref y)) := x
    show h'.get? a = some (PySem.W.methodObj (.ref f) (.ref y))
    exact k a _ (.inl rfl) e
  | ext φ => obtain ⟨p, ⟨o, e⟩, st⟩ := x; exact ⟨st _ _ p fun o q => k _ _ (.inl rfl) q, ⟨o, k _ _ (.inl rfl) e⟩, st⟩
theorem HOk.lt (x : HOk P w H h) (e : H a = some o) : a < h.objs.size := (x a o e).lt
theorem HOk.fresh (x : HOk P w H h) (e : h.objs.size ≤ a) : H a = none := by
  cases q : H a with
  | none => rfl
  | some u => exact absurd (Nat.lt_of_lt_of_le (x.lt q) e) (Nat.lt_irrefl _)
/-- every object of the heap is kept -/
theorem HOk.kept (x : HOk P w H h) (k : ∀ b u, h.get? b = some u → h'.get? b = some u) : HOk P w H h' := fun a o e =>
  (x a o e).stay (fun b u _ q => k b u q) (fun _ q => q) fun _ _ q => q
/-- a new object is laid and tracked -/
theorem HOk.laid (x : HOk P w H h) (k : ∀ b u, h.get? b = some u → h'.get? b = some u) (hp : h.objs.size ≤ a) (new : ObjOk P w (upd H a o) h' a o) : HOk P w (upd H a o) h' := fun b u e => by
  have hn := x.fresh hp
  by_cases hb : b = a
  · subst hb; rw [upd_same] at e; cases e; exact new
  · rw [upd_ne hb] at e
    exact (x b u e).stay (fun c v _ q => k c v q) (fun c q => by rw [upd_ne (ne_of_none q hn)]; exact q) fun c xs q => by rw [upd_ne (ne_of_none q hn)]; exact q
end

/-- what may be read as u: it is u, or a known u -/
def Rd (H : Hp) (a : Addr) (u : HO) : Prop := H a = some u ∨ ∃ o, H a = some (.frz o u)
theorem Rd.of {H : Hp} {a : Addr} {u : HO} (h : H a = some u) : Rd H a u := .inl h
theorem Rd.ok {P : Program} {w : World} {H : Hp} {h : Heap} {a : Addr} {u : HO} (r : Rd H a u) (x : HOk P w H h) : ObjOk P w H h a u := by
  rcases r with r | ⟨o, r⟩
  · exact x a u r
  · obtain ⟨_, q⟩ := x a _ r
    exact q
/-- what may be written -/
def Mut : Option HO → Prop
  | some (.lst _) => True
  | some (.dK _) => True
  | some (.dT _) => True
  | some (.set _ _) => True
  | some (.ins _ _ _) => True
  | some (.ext _) => True
  | _ => False
section
variable {P : Program} {w : World} {H : Hp} {h h' : Heap} {x e : Addr} {o' : HO}
/-- the object at e is changed: x itself, or the dict of the instance x -/
theorem HOk.write (ok : HOk P w H h) (mu : Mut (H x)) (he : e = x ∨ H e = some (.own x)) (k : ∀ b u, b ≠ e → h.get? b = some u → h'.get? b = some u) (heo : ∃ u, h'.get? e = some u)
    (new : ObjOk P w (upd H x o') h' x o') : HOk P w (upd H x o') h' := fun b u q => by
  have nown : ∀ c y, H c = some (.own y) → c ≠ x := fun c y r z => by subst z; rw [r] at mu; exact mu
  have ntup : ∀ c xs, H c = some (.tup xs) → c ≠ x := fun c xs r z => by subst z; rw [r] at mu; exact mu
  by_cases hb : b = x
  · subst hb; rw [upd_same] at q; cases q; exact new
  · rw [upd_ne hb] at q
    by_cases hbe : b = e
    · have q' : H b = some (.own x) := by
        rcases he with z | z
        · exact absurd (hbe.trans z) hb
        · rw [hbe]; exact z
      rw [q] at q'; cases q'
      obtain ⟨v, hv⟩ := heo
      exact ⟨v, by rw [hbe]; exact hv⟩
    · refine (ok b u q).stay (fun c v hc r => k c v ?_ r) (fun c r => by rw [upd_ne (nown c b r)]; exact r) fun c xs r => by rw [upd_ne (ntup c xs r)]; exact r
      rcases hc with rfl | hc
      · exact hbe
      · rintro rfl
        rcases he with z | z
        · exact nown c b hc z
        · rw [hc] at z; cases z; exact hb rfl
end

/-! ### kept unless tracked; of the frames at fs (the callers') the slots may change (an exception that passes writes there); of the records at ex (iterators) nothing is said -/
structure Un (fs ex : List Addr) (H H' : Hp) (h h' : Heap) : Prop where
  keep : ∀ b o, h.get? b = some o → H b = none → b ∉ fs → b ∉ ex → h'.get? b = some o
  slot : ∀ b o, h.get? b = some o → H b = none → b ∈ fs → b ∉ ex → ∃ sl, h'.get? b = some { o with slots := sl }
  free : ∀ b o, h.get? b = some o → H b = none → b ∉ ex → H' b = none
  there : ∀ b o, h.get? b = some o → b ∉ ex → ∃ o', h'.get? b = some o'
  tups : ∀ b xs, H b = some (.tup xs) → H' b = some (.tup xs)
  frzs : ∀ b o u, H b = some (.frz o u) → H' b = some (.frz o u)
  tbls : ∀ b ps, H b = some (.tbl ps) → ∃ more, H' b = some (.tbl (ps ++ more))
section
variable {fs fs' ex ex' : List Addr} {H H1 H2 : Hp} {h h1 h2 h' : Heap} {a x e : Addr} {o : HO}
theorem Un.any (u : Un fs ex H H1 h h1) {b : Addr} {ob : Obj} (q : h.get? b = some ob) (n : H b = none) (hx : b ∉ ex) : ∃ sl, h1.get? b = some { ob with slots := sl } := by
  by_cases hb : b ∈ fs
  · exact u.slot b ob q n hb hx
  · exact ⟨ob.slots, u.keep b ob q n hb hx⟩
theorem Un.trans (a : Un fs ex H H1 h h1) (b : Un fs ex H1 H2 h1 h2) : Un fs ex H H2 h h2 where
  keep := fun c ob q n hc hx => b.keep c ob (a.keep c ob q n hc hx) (a.free c ob q n hx) hc hx
  slot := fun c ob q n hc hx => by
    obtain ⟨sl, e1⟩ := a.slot c ob q n hc hx
    obtain ⟨sl', e2⟩ := b.slot c _ e1 (a.free c ob q n hx) hc hx
    exact ⟨sl', e2⟩
  free := fun c ob q n hx => by
    obtain ⟨o', e1⟩ := a.there c ob q hx
    exact b.free c o' e1 (a.free c ob q n hx) hx
  there := fun c ob q hx => by
    obtain ⟨o', e1⟩ := a.there c ob q hx
    exact b.there c o' e1 hx
  tups := fun c xs q => b.tups c xs (a.tups c xs q)
  frzs := fun c ob xs q => b.frzs c ob xs (a.frzs c ob xs q)
  tbls := fun c ps q => by
    obtain ⟨m1, e1⟩ := a.tbls c ps q
    obtain ⟨m2, e2⟩ := b.tbls c _ e1
    exact ⟨m1 ++ m2, by rw [e2, Array.append_assoc]⟩
theorem Un.kept (k : ∀ b u, h.get? b = some u → h'.get? b = some u) : Un fs ex H H h h' :=
  ⟨fun b ob q _ _ _ => k b ob q, fun b ob q _ _ _ => ⟨ob.slots, k b ob q⟩, fun _ _ _ n _ => n, fun b ob q _ => ⟨ob, k b ob q⟩, fun _ _ q => q, fun _ _ _ q => q, fun _ ps q => ⟨#[], by rw [q]; simp⟩⟩
theorem Un.refl : Un fs ex H H h h := Un.kept fun _ _ q => q
theorem Un.laid (k : ∀ b u, h.get? b = some u → h'.get? b = some u) (hp : h.objs.size ≤ a) (hn : H a = none) : Un fs ex H (upd H a o) h h' where
  keep := fun b u q _ _ _ => k b u q
  slot := fun b u q _ _ _ => ⟨u.slots, k b u q⟩
  free := fun b u q n _ => by rw [upd_ne (Nat.ne_of_lt (Nat.lt_of_lt_of_le (Heap.lt_size q) hp))]; exact n
  there := fun b u q _ => ⟨u, k b u q⟩
  tups := fun b xs q => by rw [upd_ne (ne_of_none q hn)]; exact q
  frzs := fun b u xs q => by rw [upd_ne (ne_of_none q hn)]; exact q
  tbls := fun b ps q => ⟨#[], by rw [upd_ne (ne_of_none q hn), q]; simp⟩
theorem Un.write (mu : Mut (H x)) (he : e = x ∨ H e = some (.own x)) (k : ∀ b u, b ≠ e → h.get? b = some u → h'.get? b = some u) (heo : ∃ u, h'.get? e = some u) : Un fs ex H (upd H x o) h h' := by
  have hx : ∀ b, H b = none → b ≠ x := fun b n z => by subst z; rw [n] at mu; exact mu
  have hb : ∀ b, H b = none → b ≠ e := fun b n z => by
    subst z
    rcases he with r | r
    · exact hx b n r
    · rw [n] at r; cases r
  have hm : ∀ b u, H b = some u → ¬ Mut (some u) → b ≠ x := fun b u q nm z => by subst z; rw [q] at mu; exact nm mu
  refine ⟨fun b u q n _ _ => k b u (hb b n) q, fun b u q n _ _ => ⟨u.slots, k b u (hb b n) q⟩, fun b u q n _ => by rw [upd_ne (hx b n)]; exact n, fun b u q _ => ?_,
    fun b xs q => by rw [upd_ne (hm b _ q fun z => z)]; exact q, fun b u xs q => by rw [upd_ne (hm b _ q fun z => z)]; exact q, fun b ps q => ⟨#[], by rw [upd_ne (hm b _ q fun z => z), q]; simp⟩⟩
  by_cases hbe : b = e
  · subst hbe; exact heo
  · exact ⟨u, k b u hbe q⟩
theorem Un.mono (u : Un fs ex H H1 h h1) (hs : ∀ b ∈ fs, b ∈ fs') (hx : ∀ b ∈ ex, b ∈ ex') : Un fs' ex' H H1 h h1 :=
  ⟨fun b ob q n hb he => u.keep b ob q n (fun z => hb (hs b z)) fun z => he (hx b z), fun _ _ q n _ he => u.any q n fun z => he (hx _ z), fun b ob q n he => u.free b ob q n fun z => he (hx b z), fun b ob q he => u.there b ob q fun z => he (hx b z), u.tups, u.frzs, u.tbls⟩
end

/-! ### the heap without what is tracked -/
def trk (h : Heap) (H : Hp) : List Addr := (List.range h.objs.size).filter fun a => (H a).isSome
def hidT (h : Heap) (H : Hp) : Heap := PySem.W.hideAll h (trk h H)
theorem hidT_size (h : Heap) (H : Hp) : (hidT h H).objs.size = h.objs.size := PySem.W.hideAll_size _ _
theorem hidT_get {h : Heap} {H : Hp} {b : Addr} {o : Obj} (e : h.get? b = some o) (n : H b = none) : (hidT h H).get? b = some o :=
  PySem.W.hideAll_get _ e fun hm => by
    have q : (H b).isSome = true := (List.mem_filter.mp hm).2
    rw [n] at q; simp at q
theorem of_hidT {h : Heap} {H : Hp} {b : Addr} {o : Obj} (e : (hidT h H).get? b = some o) : h.get? b = some o ∧ H b = none := by
  have e' : h.get? b = some o := PySem.W.of_hideAll (trk h H) e
  refine ⟨e', ?_⟩
  cases q : H b with
  | none => rfl
  | some x =>
    have hm : b ∈ trk h H := List.mem_filter.mpr ⟨List.mem_range.mpr (Heap.lt_size e'), by simp [q]⟩
    have z : (hidT h H).get? b = none := PySem.W.hideAll_none (trk h H) hm
    rw [z] at e; cases e

/-! ### OpenK's ledger, filled with every new object but one -/
def allNews (g h : Heap) (L : Addr) : List (Addr × Obj) := (List.range h.objs.size).filterMap fun a => if a = L ∨ (g.get? a).isSome = true then none else (h.get? a).map fun o => (a, o)
def rest (g h : Heap) (L d : Addr) : List (Addr × Obj) := (allNews g h L).filter fun p => decide (p.1 ≠ d)
end L2

namespace L2
open PySem PySem.Spec PyProof.Rows

/-- the module's facts, over the base: the heap at the law's entry without what is tracked there -/
structure Mod (K : PySem.W.Frag) (mg : Str → Option Value) (base : Heap) : Prop where
  kin : K.In base
  glob : base.Ns mainGlobals mg
  blt : ∃ mb, base.Ns builtinsNs mb ∧ ∀ x : Str, x ≠ "__name__" → mb x = bootBuiltins x
  nolimit : base.NoLimit

/-- the context: a def's body (or a comprehension's block) running. base: fixed through the whole law; s₀, H₀: the entry; outer: the frames whose slots others may change (a def's callers); stack: all frames that run;
   ex: iterators that were made ahead of the entry and are walked here (a comprehension's); fn: the names whose cells were made at the entry (a def: all; a comprehension's block: its own); calm: not within an except suite; pn: pins that every state bears; xe: what is wanted of an exception that leaves the code -/
structure Cx where
  prog : Program
  w : World
  K : PySem.W.Frag
  mg : Str → Option Value
  base : Heap
  A : Around
  N : List Str
  s_0 : Shared
  H_0 : Hp
  env : Env
  outer : List Env
  stack : List Env
  ex : List Addr
  fn : Str → Bool
  calm : Bool
  pn : List (Addr × Obj)
  xe : Value → Shared → Prop
/-- the callers' frames -/
def frs (l : List Env) : List Addr := l.filterMap (·.frame)
abbrev Cx.fs (X : Cx) : List Addr := frs X.outer

def Vis (sc : Scope) (x : Str) : Prop := sc.names.lookup x = some .local ∨ sc.names.lookup x = some .cell ∨ sc.names.lookup x = some .free
def Loc (sc : Scope) (x : Str) : Prop := sc.names.lookup x = some .local ∨ sc.names.lookup x = some .cell
def Look (env : Env) (h : Heap) (m : Str → Option Value) (x : Str) (u : Value) : Prop :=
  (env.kindOf x = some .local ∧ m x = some u) ∨ ((env.kindOf x = some .cell ∨ env.kindOf x = some .free) ∧ ∃ c, env.cells.lookup x = some c ∧ h.IsCell c (some u))

structure Cx.Ok (X : Cx) : Prop where
  mod : Mod X.K X.mg X.base
  kind : X.env.scope.kind = .function
  glob : X.env.globals = mainGlobals
  blt : X.env.builtins = builtinsNs
  above : X.s_0.heap.objs.size ≤ X.env.locals
  inj : ∀ x y c, X.env.cells.lookup x = some c → X.env.cells.lookup y = some c → x = y
  has : ∀ x, (X.env.kindOf x = some .cell ∨ X.env.kindOf x = some .free) → ∃ c, X.env.cells.lookup x = some c
  cab : ∀ x c, X.fn x = true → X.env.cells.lookup x = some c → X.s_0.heap.objs.size ≤ c
  hd : X.calm = true → X.A.handled = none
  frames : X.A.frames = some X.stack
  stk : X.stack = X.outer ∨ (X.stack = X.env :: X.outer ∧ X.env.frame = some X.env.locals)
  exf : ∀ b ∈ X.ex, b ≠ X.env.locals ∧ ∀ x c, X.env.cells.lookup x = some c → c ≠ b
  bs : ∀ b o, X.base.get? b = some o → X.s_0.heap.get? b = some o ∧ X.H_0 b = none
  bsz : X.base.objs.size ≤ X.s_0.heap.objs.size
  noex : ∀ b o, X.base.get? b = some o → b ∉ X.ex
  exfs : ∀ b ∈ X.ex, b ∉ X.fs
  funs : X.s_0.heap.FunFrames X.base X.outer
  frf : ∀ b ∈ X.fs, X.H_0 b = none

structure Inv (X : Cx) (pins : List (Addr × Obj)) (σ : List (Option V)) (H : Hp) (s : Shared) : Prop where
  ok : X.Ok
  os : s.os = X.s_0.os
  bare : AllBare s.gens
  base : Un X.fs X.ex X.H_0 H X.s_0.heap s.heap
  loc : ∃ m, s.heap.Ns X.env.locals m ∧ ∀ (i : Nat) (x : Str) (v : V), X.N[i]? = some x → σ[i]? = some (some v) → Vis X.env.scope x → ∃ u, RelV v u ∧ Look X.env s.heap m x u
  cell : ∀ x c, X.env.cells.lookup x = some c → ∃ v, s.heap.IsCell c v
  free : H X.env.locals = none
  freeC : ∀ x c, X.env.cells.lookup x = some c → H c = none
  pin : ∀ p ∈ X.pn ++ pins, s.heap.get? p.1 = some p.2 ∧ H p.1 = none ∧ p.1 ≠ X.env.locals ∧ p.1 ∉ X.fs ∧ ∀ v, p.2.data ≠ .cell v
  hok : HOk X.prog X.w H s.heap
  len : σ.length = X.N.length

section
variable {X : Cx} {pins : List (Addr × Obj)} {σ : List (Option V)} {H H' : Hp} {s : Shared} {h' : Heap}

theorem Cx.Ok.nofr (ok : X.Ok) {b : Addr} {o : Obj} (e : X.base.get? b = some o) : b ∉ X.fs := fun hb => by
  have := (ok.funs.mem hb).1
  rw [e] at this; cases this
theorem Inv.bs (I : Inv X pins σ H s) : ∀ b o, X.base.get? b = some o → s.heap.get? b = some o ∧ H b = none := fun b o e =>
  ⟨I.base.keep b o (I.ok.bs b o e).1 (I.ok.bs b o e).2 (I.ok.nofr e) (I.ok.noex b o e), I.base.free b o (I.ok.bs b o e).1 (I.ok.bs b o e).2 (I.ok.noex b o e)⟩
theorem Inv.bk (I : Inv X pins σ H s) : ∀ b o, X.base.get? b = some o → s.heap.get? b = some o := fun b o e => (I.bs b o e).1
theorem Inv.mod (I : Inv X pins σ H s) : Mod X.K X.mg X.base := I.ok.mod
theorem Inv.kIn (I : Inv X pins σ H s) : X.K.In s.heap := I.ok.mod.kin.keeps I.bk
theorem Inv.nolimit (I : Inv X pins σ H s) : s.heap.NoLimit := I.ok.mod.nolimit.keeps I.bk
theorem Inv.lt (I : Inv X pins σ H s) : X.env.locals < s.heap.objs.size := let ⟨_, hn, _⟩ := I.loc; hn.lt
theorem Inv.sz (I : Inv X pins σ H s) : X.s_0.heap.objs.size ≤ s.heap.objs.size := Nat.le_trans I.ok.above (Nat.le_of_lt I.lt)
theorem Inv.nofs (I : Inv X pins σ H s) {a : Addr} (h : s.heap.objs.size ≤ a) : a ∉ X.fs := fun hb => by
  obtain ⟨_, o, ho, _⟩ := I.ok.funs.mem hb
  exact absurd (Nat.lt_of_lt_of_le (Heap.lt_size ho) (Nat.le_trans I.sz h)) (Nat.lt_irrefl _)
theorem Inv.cne (I : Inv X pins σ H s) : ∀ x c, X.env.cells.lookup x = some c → c ≠ X.env.locals := fun x c e z => by
  obtain ⟨v, o, ho, hd⟩ := I.cell x c e
  obtain ⟨m, ⟨o', es, ep, ho', hd', _⟩, _⟩ := I.loc
  rw [z, ho'] at ho; cases ho; rw [hd'] at hd; cases hd
theorem Inv.funs (I : Inv X pins σ H s) : s.heap.FunFrames X.base X.outer := by
  have all : ∀ (l : List Env), (∀ b ∈ frs l, b ∈ X.fs) → X.s_0.heap.FunFrames X.base l → s.heap.FunFrames X.base l := by
    intro l
    induction l with
    | nil => intro _ _; trivial
    | cons env r ih =>
      intro hs hl
      obtain ⟨hk, ⟨L, o, hf, hn, ho, hd⟩, hr⟩ := hl
      have hL : L ∈ X.fs := hs L (by unfold frs; rw [List.filterMap_cons, hf]; exact List.mem_cons_self)
      obtain ⟨sl, e⟩ := I.base.slot L o ho (I.ok.frf L hL) hL fun z => I.ok.exfs L z hL
      exact ⟨hk, ⟨L, _, hf, hn, e, hd⟩, ih (fun b hb => hs b (by unfold frs; rw [List.filterMap_cons, hf]; exact List.mem_cons_of_mem _ hb)) hr⟩
  exact all X.outer (fun _ hb => hb) I.ok.funs

/-- the frames that run, for a call -/
theorem Inv.stack (I : Inv X pins σ H s) : s.heap.FunFrames X.base X.stack := by
  rcases I.ok.stk with e | ⟨e, hf⟩
  · rw [e]; exact I.funs
  · rw [e]
    obtain ⟨m, hn, _⟩ := I.loc
    refine .cons (by rw [I.ok.kind]; decide) hf hn ?_ I.funs
    exact Heap.get?_none_of_le (Nat.le_trans I.ok.bsz I.ok.above)
theorem Inv.stkSub (I : Inv X pins σ H s) : ∀ b ∈ frs X.stack, b ∈ X.env.locals :: X.fs := fun b hb => by
  rcases I.ok.stk with e | ⟨e, hf⟩
  · rw [e] at hb; exact List.mem_cons_of_mem _ hb
  · rw [e] at hb
    unfold frs at hb
    rw [List.filterMap_cons, hf] at hb
    exact hb
theorem Inv.stkFree (I : Inv X pins σ H s) : ∀ b ∈ frs X.stack, H b = none := fun b hb => by
  rcases List.mem_cons.mp (I.stkSub b hb) with e | hb
  · rw [e]; exact I.free
  · obtain ⟨_, o, ho, _⟩ := I.ok.funs.mem hb
    exact I.base.free b o ho (I.ok.frf b hb) fun z => I.ok.exfs b z hb

/-- THE STEP: the untracked objects but the frame and the records at ch are kept (the callers' frames up to slots), the frame's map is kept, the new abstract heap is held -/
theorem Inv.step {g' : Array GenState} {t' : Nat} {d' : Drawn} {ch : List Addr} (I : Inv X pins σ H s)
    (hch : ∀ b ∈ ch, (b ∈ X.ex ∨ X.s_0.heap.objs.size ≤ b) ∧ b ≠ X.env.locals ∧ (∀ x c, X.env.cells.lookup x = some c → c ≠ b) ∧ ∀ p ∈ X.pn ++ pins, p.1 ≠ b)
    (keep : ∀ b o, b ≠ X.env.locals → b ∉ X.fs → b ∉ ch → s.heap.get? b = some o → H b = none → h'.get? b = some o)
    (slot : ∀ b o, b ≠ X.env.locals → b ∈ X.fs → b ∉ ch → s.heap.get? b = some o → H b = none → ∃ sl, h'.get? b = some { o with slots := sl }) (free : ∀ b o, b ∉ ch → s.heap.get? b = some o → H b = none → H' b = none)
    (there : ∀ b o, b ∉ ch → s.heap.get? b = some o → ∃ o', h'.get? b = some o')
    (tups : ∀ b xs, H b = some (.tup xs) → H' b = some (.tup xs)) (frzs : ∀ b o u, H b = some (.frz o u) → H' b = some (.frz o u)) (tbls : ∀ b ps, H b = some (.tbl ps) → ∃ more, H' b = some (.tbl (ps ++ more)))
    (ns : ∀ m, s.heap.Ns X.env.locals m → h'.Ns X.env.locals m) (hok : HOk X.prog X.w H' h') (hg : AllBare g') :
    Inv X pins σ H' { s with heap := h', gens := g', drawn := d', toks := t' } := by
  have neL : ∀ b o, X.s_0.heap.get? b = some o → b ≠ X.env.locals := fun b o e => Nat.ne_of_lt (Nat.lt_of_lt_of_le (Heap.lt_size e) I.ok.above)
  have neC : ∀ b o, X.s_0.heap.get? b = some o → b ∉ X.ex → b ∉ ch := fun b o e hx hb => by
    rcases (hch b hb).1 with z | z
    · exact hx z
    · exact absurd (Nat.lt_of_lt_of_le (Heap.lt_size e) z) (Nat.lt_irrefl _)
  have cellK : ∀ x c, X.env.cells.lookup x = some c → ∀ v, s.heap.IsCell c v → h'.IsCell c v := fun x c e v ⟨o, ho, hd⟩ => by
    have nch : c ∉ ch := fun z => (hch c z).2.2.1 x c e rfl
    by_cases hc : c ∈ X.fs
    · obtain ⟨sl, q⟩ := slot c o (I.cne x c e) hc nch ho (I.freeC x c e)
      exact ⟨_, q, hd⟩
    · exact ⟨o, keep c o (I.cne x c e) hc nch ho (I.freeC x c e), hd⟩
  refine ⟨I.ok, I.os, hg, ⟨fun b o e n hb hx => ?_, fun b o e n hb hx => ?_, fun b o e n hx => ?_, fun b o e hx => ?_, fun b xs e => tups b xs (I.base.tups b xs e), fun b o xs e => frzs b o xs (I.base.frzs b o xs e), fun b ps e => ?_⟩, ?_, fun x c e => ?_, ?_, fun x c e => ?_, fun p hp => ?_, hok, I.len⟩
  · exact keep b o (neL b o e) hb (neC b o e hx) (I.base.keep b o e n hb hx) (I.base.free b o e n hx)
  · obtain ⟨sl, e1⟩ := I.base.slot b o e n hb hx
    obtain ⟨sl', e2⟩ := slot b _ (neL b o e) hb (neC b o e hx) e1 (I.base.free b o e n hx)
    exact ⟨sl', e2⟩
  · obtain ⟨o', e1⟩ := I.base.there b o e hx
    exact free b o' (neC b o e hx) e1 (I.base.free b o e n hx)
  · obtain ⟨o', e1⟩ := I.base.there b o e hx
    exact there b o' (neC b o e hx) e1
  · obtain ⟨m1, e1⟩ := I.base.tbls b ps e
    obtain ⟨m2, e2⟩ := tbls b _ e1
    exact ⟨m1 ++ m2, by rw [e2, Array.append_assoc]⟩
  · obtain ⟨m, hn, hl⟩ := I.loc
    refine ⟨m, ns m hn, fun i x v e1 e2 e3 => ?_⟩
    obtain ⟨u, r, l⟩ := hl i x v e1 e2 e3
    refine ⟨u, r, ?_⟩
    rcases l with l | ⟨k, c, e, z⟩
    · exact .inl l
    · exact .inr ⟨k, c, e, cellK x c e _ z⟩
  · obtain ⟨v, z⟩ := I.cell x c e
    exact ⟨v, cellK x c e v z⟩
  · obtain ⟨m, ⟨o, _, _, ho, _⟩, _⟩ := I.loc
    exact free _ o (fun z => (hch _ z).2.1 rfl) ho I.free
  · obtain ⟨v, o, ho, hd⟩ := I.cell x c e
    exact free c o (fun z => (hch c z).2.2.1 x c e rfl) ho (I.freeC x c e)
  · obtain ⟨e, n, ne, nf, d⟩ := I.pin p hp
    have nch : p.1 ∉ ch := fun z => (hch p.1 z).2.2.2 p hp rfl
    exact ⟨keep p.1 p.2 ne nf nch e n, free p.1 p.2 nch e n, ne, nf, d⟩
/-- .. where the frame's own object is kept too -/
theorem Inv.un {t' : Nat} (I : Inv X pins σ H s) (u : Un X.fs [] H H' s.heap h') (hok : HOk X.prog X.w H' h') : Inv X pins σ H' { s with heap := h', toks := t' } := by
  obtain ⟨m, ⟨o, es, ep, ho, r⟩, _⟩ := id I.loc
  obtain ⟨sl, hL⟩ := u.any ho I.free (by simp)
  exact I.step (g' := s.gens) (d' := s.drawn) (ch := []) (fun _ z => nomatch z) (fun b o _ hb _ e n => u.keep b o e n hb (by simp)) (fun b o _ hb _ e n => u.slot b o e n hb (by simp)) (fun b o _ e n => u.free b o e n (by simp)) (fun b o _ e => u.there b o e (by simp)) u.tups u.frzs u.tbls (fun m' hm => by
    obtain ⟨o', es', ep', ho', r'⟩ := hm
    rw [ho] at ho'; cases ho'
    exact ⟨_, es', ep', hL, r'⟩) hok I.bare
/-- behind a call (or a comprehension's block): the slots of this frame may have changed too, the records at ch may have turned -/
theorem Inv.call {g' : Array GenState} {t' : Nat} {d' : Drawn} {ch : List Addr} (I : Inv X pins σ H s) (u : Un (frs X.stack) ch H H' s.heap h') (hok : HOk X.prog X.w H' h') (hg : AllBare g')
    (hch : ∀ b ∈ ch, (b ∈ X.ex ∨ X.s_0.heap.objs.size ≤ b) ∧ b ≠ X.env.locals ∧ (∀ x c, X.env.cells.lookup x = some c → c ≠ b) ∧ ∀ p ∈ X.pn ++ pins, p.1 ≠ b) :
    Inv X pins σ H' { s with heap := h', gens := g', drawn := d', toks := t' } := by
  obtain ⟨m, ⟨o, es, ep, ho, r⟩, _⟩ := id I.loc
  obtain ⟨sl, hL⟩ := u.any ho I.free fun z => (hch _ z).2.1 rfl
  exact I.step (ch := ch) hch (fun b o hL hb hc e n => u.keep b o e n (fun z => (List.mem_cons.mp (I.stkSub b z)).elim hL hb) hc) (fun b o _ _ hc e n => u.any e n hc) (fun b o hc e n => u.free b o e n hc) (fun b o hc e => u.there b o e hc) u.tups u.frzs u.tbls (fun m' hm => by
    obtain ⟨o', es', ep', ho', r'⟩ := hm
    rw [ho] at ho'; cases ho'
    exact ⟨_, es', ep', hL, r'⟩) hok hg
/-- an untracked record of ours (an iterator) has turned -/
theorem Inv.turned {t' : Nat} {it : Addr} (I : Inv X pins σ H s) (k : ∀ b o, b ≠ it → s.heap.get? b = some o → h'.get? b = some o) (hn : H it = none) (hL : it ≠ X.env.locals)
    (h1 : it ∈ X.ex ∨ X.s_0.heap.objs.size ≤ it) (h2 : ∀ x c, X.env.cells.lookup x = some c → c ≠ it) (h3 : ∀ p ∈ X.pn ++ pins, p.1 ≠ it) : Inv X pins σ H { s with heap := h', toks := t' } := by
  have nit : ∀ b u, H b = some u → b ≠ it := fun b u e z => by rw [z, hn] at e; cases e
  refine I.step (g' := s.gens) (d' := s.drawn) (ch := [it]) (fun b hb => ?_) (fun b o _ _ hc e _ => k b o (fun z => hc (by simp [z])) e) (fun b o _ _ hc e _ => ⟨o.slots, k b o (fun z => hc (by simp [z])) e⟩) (fun _ _ _ _ n => n)
    (fun b o hc e => ⟨o, k b o (fun z => hc (by simp [z])) e⟩) (fun _ _ e => e) (fun _ _ _ e => e) (fun b ps e => ⟨#[], by rw [e]; simp⟩) (fun m hm => ?_) (fun b u e => ?_) I.bare
  · have e : b = it := by simpa using hb
    subst e
    exact ⟨h1, hL, h2, h3⟩
  · obtain ⟨o, es, ep, ho, r⟩ := hm
    exact ⟨o, es, ep, k _ o (Ne.symm hL) ho, r⟩
  · refine (I.hok b u e).stay (fun c v hc q => k c v ?_ q) (fun _ q => q) fun _ _ q => q
    rcases hc with z | z
    · rw [z]; exact nit b u e
    · exact nit c _ z
theorem Inv.tok (I : Inv X pins σ H s) (t : Nat) : Inv X pins σ H { s with toks := t } := I.un (h' := s.heap) (t' := t) Un.refl I.hok
/-- all objects kept -/
theorem Inv.kept {t' : Nat} (I : Inv X pins σ H s) (k : ∀ b u, s.heap.get? b = some u → h'.get? b = some u) : Inv X pins σ H { s with heap := h', toks := t' } := I.un (Un.kept k) (I.hok.kept k)
/-- a new object laid and tracked -/
theorem Inv.laid {a : Addr} {o : HO} {t' : Nat} (I : Inv X pins σ H s) (k : ∀ b u, s.heap.get? b = some u → h'.get? b = some u) (hp : s.heap.objs.size ≤ a) (new : ObjOk X.prog X.w (upd H a o) h' a o) :
    Inv X pins σ (upd H a o) { s with heap := h', toks := t' } := I.un (Un.laid k hp (I.hok.fresh hp)) (I.hok.laid k hp new)
/-- an object written -/
theorem Inv.write {x e : Addr} {o : HO} {t' : Nat} (I : Inv X pins σ H s) (mu : Mut (H x)) (he : e = x ∨ H e = some (.own x)) (k : ∀ b u, b ≠ e → s.heap.get? b = some u → h'.get? b = some u) (heo : ∃ u, h'.get? e = some u)
    (new : ObjOk X.prog X.w (upd H x o) h' x o) : Inv X pins σ (upd H x o) { s with heap := h', toks := t' } := I.un (Un.write mu he k heo) (I.hok.write mu he k heo new)
/-- forgetting slots, pins -/
theorem Inv.weak {σ' : List (Option V)} (I : Inv X pins σ H s) (hl : σ'.length = σ.length) (w : ∀ (i : Nat) v, σ'[i]? = some (some v) → σ[i]? = some (some v)) : Inv X pins σ' H s :=
  ⟨I.ok, I.os, I.bare, I.base, let ⟨m, hn, hl'⟩ := I.loc; ⟨m, hn, fun i x v e1 e2 e3 => hl' i x v e1 (w i v e2) e3⟩, I.cell, I.free, I.freeC, I.pin, I.hok, hl.trans I.len⟩
theorem Inv.pins_of {pins' : List (Addr × Obj)} (I : Inv X pins σ H s) (h : ∀ p ∈ pins', s.heap.get? p.1 = some p.2 ∧ H p.1 = none ∧ p.1 ≠ X.env.locals ∧ p.1 ∉ X.fs ∧ ∀ v, p.2.data ≠ .cell v) : Inv X pins' σ H s :=
  ⟨I.ok, I.os, I.bare, I.base, I.loc, I.cell, I.free, I.freeC, fun p hp => (List.mem_append.mp hp).elim (fun z => I.pin p (List.mem_append_left _ z)) (h p), I.hok, I.len⟩

theorem nodup_ix {N : List Str} (hN : N.Nodup) {i j : Nat} {x : Str} (a : N[i]? = some x) (b : N[j]? = some x) : i = j := by
  obtain ⟨h1, e1⟩ := List.getElem?_eq_some_iff.mp a
  obtain ⟨h2, e2⟩ := List.getElem?_eq_some_iff.mp b
  exact (List.getElem_inj hN).mp (e1.trans e2.symm)

/-- a name is stored; what changed -/
theorem store_ok2 {M : Model} {A : Around} {E : Value → Shared → Prop} {i : Nat} {x : Str} {v : V} {u : Value} {Q : Unit → Shared → Prop} (I : Inv X pins σ H s) (hN : X.N.Nodup) (hi : X.N[i]? = some x) (hx : Loc X.env.scope x) (r : RelV v u)
    (h : ∀ s', Inv X pins (σ.set i (some v)) H s' → (∃ a, Heap.SameBut a s.heap s'.heap ∧ (a = X.env.locals ∨ X.env.cells.lookup x = some a)) → Q () s') (hf : X.fn x = true ∨ X.env.scope.names.lookup x = some .local := by first | exact .inl rfl | exact .inr rfl | assumption) : wpAny M A (storeName X.env x u) Q E s := by
  obtain ⟨m, hn, hl⟩ := id I.loc
  have hcls : (X.env.scope.kind == .class || (X.env.scope.kind == .module && X.env.locals != X.env.globals)) = false := by rw [I.ok.kind]; rfl
  have hiσ : i < σ.length := by rw [I.len]; exact (List.getElem?_eq_some_iff.mp hi).1
  have cne := I.cne
  have tracked : ∀ {a : Addr} {h' : Heap}, (∃ o, s.heap.get? a = some o ∧ H a = none) → Heap.SameBut a s.heap h' → HOk X.prog X.w H h' := fun {a h'} ha hs b ob e => by
    obtain ⟨_, _, hfree⟩ := ha
    refine (I.hok b ob e).stay (fun c w' hc q => (hs.2 c ?_).trans q) (fun _ q => q) fun _ _ q => q
    rintro rfl
    rcases hc with rfl | hc
    · rw [hfree] at e; cases e
    · rw [hfree] at hc; cases hc
  rcases hx with hk | hk
  · refine wpAny_storeName_local hk hn (fun h' hn' hs => ?_) hcls
    obtain ⟨oL, _, _, hoL, _⟩ := id hn
    refine h _ ⟨I.ok, I.os, I.bare, ⟨fun b o e n hb hx => ?_, fun b o e n hb hx => ?_, I.base.free, fun b o e hx => ?_, I.base.tups, I.base.frzs, I.base.tbls⟩, ⟨_, hn', fun j y v' e1 e2 e3 => ?_⟩, fun y c e => ?_, I.free, I.freeC, fun p hp => ?_, tracked ⟨oL, hoL, I.free⟩ hs, by simpa using I.len⟩ ⟨_, hs, .inl rfl⟩
    · exact (hs.2 b (Nat.ne_of_lt (Nat.lt_of_lt_of_le (Heap.lt_size e) I.ok.above))).trans (I.base.keep b o e n hb hx)
    · obtain ⟨sl, e1⟩ := I.base.slot b o e n hb hx
      exact ⟨sl, (hs.2 b (Nat.ne_of_lt (Nat.lt_of_lt_of_le (Heap.lt_size e) I.ok.above))).trans e1⟩
    · obtain ⟨o', e1⟩ := I.base.there b o e hx
      exact ⟨o', (hs.2 b (Nat.ne_of_lt (Nat.lt_of_lt_of_le (Heap.lt_size e) I.ok.above))).trans e1⟩
    · by_cases hj : j = i
      · subst hj
        rw [hi] at e1; cases e1
        rw [List.getElem?_set_self hiσ] at e2
        cases e2
        exact ⟨u, r, .inl ⟨hk, by simp⟩⟩
      · rw [List.getElem?_set_ne (Ne.symm hj)] at e2
        obtain ⟨u', r', q⟩ := hl j y v' e1 e2 e3
        refine ⟨u', r', ?_⟩
        rcases q with ⟨k, e⟩ | ⟨k, c, e, z⟩
        · refine .inl ⟨k, ?_⟩
          have : y ≠ x := fun e => hj (nodup_ix hN e1 (e ▸ hi))
          simp [this, e]
        · exact .inr ⟨k, c, e, z.sameBut hs (cne y c e)⟩
    · obtain ⟨w', z⟩ := I.cell y c e
      exact ⟨w', z.sameBut hs (cne y c e)⟩
    · obtain ⟨e, n, ne, nf, d⟩ := I.pin p hp
      exact ⟨(hs.2 p.1 ne).trans e, n, ne, nf, d⟩
  · have hfn : X.fn x = true := by
      rcases hf with z | z
      · exact z
      · rw [z] at hk; cases hk
    obtain ⟨c, hc⟩ := I.ok.has x (.inl hk)
    obtain ⟨w', z⟩ := I.cell x c hc
    refine wpAny_storeName_cell I.ok.kind hk hc z (fun h' hc' hs => ?_)
    obtain ⟨oc, hoc, hocd⟩ := id z
    refine h { s with heap := h' } ⟨I.ok, I.os, I.bare, ⟨fun b o e n hb hx => ?_, fun b o e n hb hx => ?_, I.base.free, fun b o e hx => ?_, I.base.tups, I.base.frzs, I.base.tbls⟩, ⟨m, hn.sameBut hs (Ne.symm (cne x c hc)), fun j y v' e1 e2 e3 => ?_⟩, fun y c' e => ?_, I.free, I.freeC, fun p hp => ?_, tracked ⟨oc, hoc, I.freeC x c hc⟩ hs, by simpa using I.len⟩ ⟨c, hs, .inr hc⟩
    · exact (hs.2 b (Nat.ne_of_lt (Nat.lt_of_lt_of_le (Heap.lt_size e) (I.ok.cab x c hfn hc)))).trans (I.base.keep b o e n hb hx)
    · obtain ⟨sl, e1⟩ := I.base.slot b o e n hb hx
      exact ⟨sl, (hs.2 b (Nat.ne_of_lt (Nat.lt_of_lt_of_le (Heap.lt_size e) (I.ok.cab x c hfn hc)))).trans e1⟩
    · obtain ⟨o', e1⟩ := I.base.there b o e hx
      exact ⟨o', (hs.2 b (Nat.ne_of_lt (Nat.lt_of_lt_of_le (Heap.lt_size e) (I.ok.cab x c hfn hc)))).trans e1⟩
    · by_cases hj : j = i
      · subst hj
        rw [hi] at e1; cases e1
        rw [List.getElem?_set_self hiσ] at e2
        cases e2
        exact ⟨u, r, .inr ⟨.inl hk, c, hc, hc'⟩⟩
      · rw [List.getElem?_set_ne (Ne.symm hj)] at e2
        obtain ⟨u', r', q⟩ := hl j y v' e1 e2 e3
        refine ⟨u', r', ?_⟩
        rcases q with q | ⟨k, c', e, z'⟩
        · exact .inl q
        · refine .inr ⟨k, c', e, z'.sameBut hs ?_⟩
          rintro rfl
          exact hj (nodup_ix hN e1 (I.ok.inj _ _ _ e hc ▸ hi))
    · by_cases hcc : c' = c
      · subst hcc; exact ⟨_, hc'⟩
      · obtain ⟨w2, z2⟩ := I.cell y c' e
        exact ⟨w2, z2.sameBut hs hcc⟩
    · obtain ⟨e, n, ne, nf, d⟩ := I.pin p hp
      refine ⟨(hs.2 p.1 ?_).trans e, n, ne, nf, d⟩
      intro q
      rw [q, hoc] at e
      have q' : oc = p.2 := Option.some.inj e
      exact d w' (by rw [← q']; exact hocd)
theorem store_ok {M : Model} {A : Around} {E : Value → Shared → Prop} {i : Nat} {x : Str} {v : V} {u : Value} {Q : Unit → Shared → Prop} (I : Inv X pins σ H s) (hN : X.N.Nodup) (hi : X.N[i]? = some x) (hx : Loc X.env.scope x) (r : RelV v u)
    (h : ∀ s', Inv X pins (σ.set i (some v)) H s' → Q () s') (hf : X.fn x = true ∨ X.env.scope.names.lookup x = some .local := by first | exact .inl rfl | exact .inr rfl | assumption) : wpAny M A (storeName X.env x u) Q E s :=
  store_ok2 I hN hi hx r (fun s' I' _ => h s' I') hf
/-- behind a call or a block, the state as it is -/
theorem Inv.call' {s' : Shared} {ch : List Addr} (I : Inv X pins σ H s) (ho : s'.os = s.os) (u : Un (frs X.stack) ch H H' s.heap s'.heap) (hok : HOk X.prog X.w H' s'.heap) (hg : AllBare s'.gens)
    (hch : ∀ b ∈ ch, (b ∈ X.ex ∨ X.s_0.heap.objs.size ≤ b) ∧ b ≠ X.env.locals ∧ (∀ x c, X.env.cells.lookup x = some c → c ≠ b) ∧ ∀ p ∈ X.pn ++ pins, p.1 ≠ b) : Inv X pins σ H' s' := by
  obtain ⟨h', g', d', t', o'⟩ := s'
  have e : o' = s.os := ho
  subst e
  exact I.call (g' := g') (t' := t') (d' := d') u hok hg hch
end

/-! ### the judgements -/
/-- an exception: its class, its own dict's address (where it has one), the abstract heap behind it -/
abbrev XK := Value → Option Addr → Hp → Prop
abbrev St := List (Option V)
abbrev VK := V → Hp → Prop
/-- an expression's reading; a test's; an argument list's -/
abbrev TE := St → Hp → VK → Prop
abbrev TT := St → Hp → (Bool → Hp → Prop) → Prop
abbrev TA := St → Hp → (List V → Hp → Prop) → Prop
/-- what is wanted behind a statement -/
structure Ends where
  nx : St → Hp → Prop
  rt : VK
  bk : St → Hp → Prop := fun _ _ => False
  ct : St → Hp → Prop := fun _ _ => False
abbrev TS := Ends → St → Hp → Prop

def EP (X : Cx) (pins : List (Addr × Obj)) (σ : St) (Q : VK) (u : Value) (s' : Shared) : Prop := ∃ v H', Inv X pins σ H' s' ∧ RelV v u ∧ Q v H'
def TP (X : Cx) (pins : List (Addr × Obj)) (σ : St) (Q : Bool → Hp → Prop) (b : Bool) (s' : Shared) : Prop := ∃ H', Inv X pins σ H' s' ∧ Q b H'
def AP (X : Cx) (pins : List (Addr × Obj)) (σ : St) (Q : List V → Hp → Prop) (us : List Value) (s' : Shared) : Prop := ∃ vs H', Inv X pins σ H' s' ∧ Vals vs us ∧ Q vs H'
def SP (X : Cx) (pins : List (Addr × Obj)) (D : Ends) (f : Flow) (s' : Shared) : Prop :=
  match f with
  | .next => ∃ σ' H', Inv X pins σ' H' s' ∧ D.nx σ' H'
  | .brk => ∃ σ' H', Inv X pins σ' H' s' ∧ D.bk σ' H'
  | .cont => ∃ σ' H', Inv X pins σ' H' s' ∧ D.ct σ' H'
  | .ret u => ∃ v σ' H', Inv X pins σ' H' s' ∧ RelV v u ∧ D.rt v H'

def PE (X : Cx) (e : Expr) (t : TE) : Prop :=
  ∀ (pins : List (Addr × Obj)) (s : Shared) (σ : St) (H : Hp) (Q : VK), Inv X pins σ H s → t σ H Q → wpAny (model X.prog X.w) X.A (eval e X.env) (EP X pins σ Q) X.xe s
def PT (X : Cx) (e : Expr) (t : TT) : Prop :=
  ∀ (pins : List (Addr × Obj)) (s : Shared) (σ : St) (H : Hp) (Q : Bool → Hp → Prop), Inv X pins σ H s → t σ H Q → wpAny (model X.prog X.w) X.A (isTrue e X.env (eval e X.env)) (TP X pins σ Q) X.xe s
/-- a test whatever its 'whole' is (and, or) -/
def PW (X : Cx) (e : Expr) (t : TT) : Prop :=
  ∀ (whole : Sem Value) (pins : List (Addr × Obj)) (s : Shared) (σ : St) (H : Hp) (Q : Bool → Hp → Prop), Inv X pins σ H s → t σ H Q → wpAny (model X.prog X.w) X.A (isTrue e X.env whole) (TP X pins σ Q) X.xe s
theorem PW.pt {X : Cx} {e : Expr} {t : TT} (h : PW X e t) : PT X e t := h _
/-- an argument list (no star), from the left -/
def PA (X : Cx) (es : List Expr) (t : TA) : Prop :=
  ∀ (pos : Pos) (pins : List (Addr × Obj)) (s : Shared) (σ : St) (H : Hp) (Q : List V → Hp → Prop), Inv X pins σ H s → t σ H Q → wpAny (model X.prog X.w) X.A (spliced (backTo pos (starEach es X.env))) (AP X pins σ Q) X.xe s
def PS (X : Cx) (st : Stmt) (t : TS) : Prop :=
  ∀ (pins : List (Addr × Obj)) (s : Shared) (σ : St) (H : Hp) (D : Ends), Inv X pins σ H s → t D σ H → wpAny (model X.prog X.w) X.A (exec st X.env) (SP X pins D) X.xe s
def PSs (X : Cx) (st : List Stmt) (t : TS) : Prop :=
  ∀ (pins : List (Addr × Obj)) (s : Shared) (σ : St) (H : Hp) (D : Ends), Inv X pins σ H s → t D σ H → wpAny (model X.prog X.w) X.A (execs st X.env) (SP X pins D) X.xe s
/-- weaken the end -/
theorem thn {α : Type} {t : Sem α} {Q Q' : α → Shared → Prop} {M : Model} {A : Around} {E : Value → Shared → Prop} {s : Shared} (h : wpAny M A t Q E s) (hQ : ∀ a s, Q a s → Q' a s) : wpAny M A t Q' E s := wpAny_mono h hQ fun _ _ x => x
end L2

namespace L2
open PySem PySem.Spec PyProof.Rows
section
variable {X : Cx}

/-- two expressions in a row -/
theorem bin {a b : Expr} {ta tb : TE} (ha : PE X a ta) (hb : PE X b tb) {pins : List (Addr × Obj)} {s : Shared} {σ : St} {H : Hp} {R : V → V → Hp → Prop} (I : Inv X pins σ H s) (h : ta σ H fun x H1 => tb σ H1 fun y H2 => R x y H2)
    {α : Type} {Q : α → Shared → Prop} {f : Value → Value → Sem α}
    (hf : ∀ v u s2 x y H2, Inv X pins σ H2 s2 → RelV x v → RelV y u → R x y H2 → wpAny (model X.prog X.w) X.A (f v u) Q X.xe s2) :
    wpAny (model X.prog X.w) X.A (eval a X.env) (fun v s₁ => wpAny (model X.prog X.w) X.A (eval b X.env) (fun u s₂ => wpAny (model X.prog X.w) X.A (f v u) Q X.xe s₂) X.xe s₁) X.xe s := by
  refine thn (ha pins s σ H _ I h) fun v s1 ⟨x, H1, I1, r1, q1⟩ => ?_
  refine thn (hb pins s1 σ H1 _ I1 q1) fun u s2 ⟨y, H2, I2, r2, q2⟩ => ?_
  exact hf v u s2 x y H2 I2 r1 r2 q2

/-! ### names and constants -/
def tVar (i : Nat) : TE := fun σ H Q => ∃ v, σ[i]? = some (some v) ∧ Q v H
def tC (v : V) : TE := fun _ H Q => Q v H
theorem pe_var {i : Nat} {x : Str} {pos : Pos} (hN : X.N[i]? = some x) (hv : Vis X.env.scope x) (hd : (x == ("__debug__" : Str)) = false := by decide) (hcd : (x == ("__classdict__" : Str)) = false := by decide) : PE X (.Name x pos) (tVar i) := by
  intro pins s σ H Q I h
  obtain ⟨v, e, h⟩ := h
  obtain ⟨m, hn, hl⟩ := I.loc
  obtain ⟨u, r, l⟩ := hl i x v hN e hv
  have fin : EP X pins σ Q u s := ⟨v, H, I, r, h⟩
  rcases l with ⟨hk, hm⟩ | ⟨hk, c, hc, hcell⟩
  · exact wpAny_Name (wpAny_loadName_local I.ok.kind hk hn hm fin) hd
  · rcases hk with hk | hk
    · exact wpAny_Name (wpAny_loadName_cell I.ok.kind hk hc hcell fin) hd
    · exact wpAny_Name (wpAny_loadName_free I.ok.kind hk hc hcell fin hcd) hd
theorem pe_int {i j pos} : PE X (.Constant (.int i) j pos) (tC (.int i)) := fun _ _ _ H _ I h => wpAny_Constant_int ⟨.int i, H, I.tok _, ⟨_, rfl⟩, h⟩
theorem pe_bl {b j pos} : PE X (.Constant (.bool b) j pos) (tC (.bl b)) := fun _ _ _ H _ I h => Constant_bool ⟨.bl b, H, I, rfl, h⟩
theorem pe_str {x j pos} : PE X (.Constant (.str x) j pos) (tC (.str x)) := fun _ _ _ H _ I h => Calls.Constant_str ⟨.str x, H, I.tok _, ⟨_, rfl⟩, h⟩

/-- a global name of the def -/
def Gl (X : Cx) (x : Str) : Prop := X.env.kindOf x = some .globalImplicit
theorem ld_glob {E : Value → Shared → Prop} {pins : List (Addr × Obj)} {s : Shared} {σ : St} {H : Hp} {x : Str} {u : Value} {pos : Pos} {Q : Value → Shared → Prop} (I : Inv X pins σ H s) (hg : Gl X x) (hm : X.mg x = some u) (h : Q u s)
    (hd : (x == ("__debug__" : Str)) = false := by decide) : wpAny (model X.prog X.w) X.A (eval (.Name x pos) X.env) Q E s :=
  Calls.Name_function_global I.ok.kind hg (Calls.loadGlobal_global (by rw [I.ok.glob]; exact I.mod.glob.keeps I.bk) hm h) hd
theorem ld_blt {E : Value → Shared → Prop} {pins : List (Addr × Obj)} {s : Shared} {σ : St} {H : Hp} {x : Str} {u : Value} {pos : Pos} {Q : Value → Shared → Prop} (I : Inv X pins σ H s) (hg : Gl X x) (hm : X.mg x = none) (hv : bootBuiltins x = some u) (h : Q u s)
    (hn : x ≠ "__name__" := by decide) (hd : (x == ("__debug__" : Str)) = false := by decide) : wpAny (model X.prog X.w) X.A (eval (.Name x pos) X.env) Q E s := by
  obtain ⟨mb, h1, h2⟩ := I.mod.blt
  exact Calls.Name_function_global I.ok.kind hg (Calls.loadGlobal_builtin (by rw [I.ok.glob]; exact I.mod.glob.keeps I.bk) hm (by rw [I.ok.blt]; exact h1.keeps I.bk) ((h2 x hn).trans hv) h) hd
/-- a module's constant, a class, a function, as a value -/
theorem pe_glob {x : Str} {v : V} {u : Value} {pos : Pos} (hg : Gl X x) (hm : X.mg x = some u) (r : RelV v u) (hd : (x == ("__debug__" : Str)) = false := by decide) : PE X (.Name x pos) (tC v) :=
  fun _ _ _ H _ I h => ld_glob I hg hm ⟨v, H, I, r, h⟩ hd
theorem pe_bltn {x : Str} {v : V} {u : Value} {pos : Pos} (hg : Gl X x) (hm : X.mg x = none) (hv : bootBuiltins x = some u) (r : RelV v u) (hn : x ≠ "__name__" := by decide) (hd : (x == ("__debug__" : Str)) = false := by decide) : PE X (.Name x pos) (tC v) :=
  fun _ _ _ H _ I h => ld_blt I hg hm hv ⟨v, H, I, r, h⟩ hn hd

/-! ### arithmetic -/
/-- two ints -/
def t2I (ta tb : TE) (k : Int → Int → Hp → Prop) : St → Hp → Prop := fun σ H => ta σ H fun x H1 => tb σ H1 fun y H2 => ∃ i j, x = .int i ∧ y = .int j ∧ k i j H2
variable {a b : Expr} {ta tb : TE} {pos : Pos}
/-! ### comparisons -/
def PC (X : Cx) (op : CmpOp) (a b : Expr) (t : TE) : Prop :=
  ∀ (pins : List (Addr × Obj)) (s : Shared) (σ : St) (H : Hp) (Q : VK), Inv X pins σ H s → t σ H Q →
    wpAny (model X.prog X.w) X.A (eval a X.env) (fun v s₁ => wpAny (model X.prog X.w) X.A (eval b X.env) (fun u s₂ => wpAny (model X.prog X.w) X.A (compareOp op v u) (EP X pins σ Q) X.xe s₂) X.xe s₁) X.xe s
theorem nobehind (b : Expr) {op : CmpOp} (h : op ≠ .In) (h2 : op ≠ .NotIn) : behindInMarks op b = false := by
  have e1 : (op == CmpOp.In) = false := by cases op <;> first | rfl | exact absurd rfl h
  have e2 : (op == CmpOp.NotIn) = false := by cases op <;> first | rfl | exact absurd rfl h2
  cases b <;> simp [behindInMarks, e1, e2]
def tCmp (p : Int → Int → Bool) (ta tb : TE) : TE := fun σ H Q => t2I ta tb (fun i j H2 => Q (.bl (p i j)) H2) σ H
abbrev tLt : TE → TE → TE := tCmp fun i j => decide (i < j)
abbrev tGt : TE → TE → TE := tCmp fun i j => decide (j < i)
abbrev tGe : TE → TE → TE := tCmp fun i j => decide (j ≤ i)
abbrev tEqI : TE → TE → TE := tCmp fun i j => decide (i = j)
abbrev tNeI : TE → TE → TE := tCmp fun i j => !decide (i = j)
/-- a comparison of two ints, by its rule -/
theorem pc_int {op : CmpOp} {p : Int → Int → Bool} (ha : PE X a ta) (hb : PE X b tb)
    (rule : ∀ (i j : Int) (t u : Tok) (Q : Value → Shared → Prop) (s : Shared), Q (.bool (p i j)) s → wpAny (model X.prog X.w) X.A (compareOp op (.int i t) (.int j u)) Q X.xe s) : PC X op a b (tCmp p ta tb) := by
  intro pins s σ H Q I h
  refine bin ha hb I h fun v u s2 x y H2 I2 rx ry q => ?_
  obtain ⟨i, j, rfl, rfl, q⟩ := q
  obtain ⟨t, rfl⟩ := rx
  obtain ⟨t', rfl⟩ := ry
  exact rule i j t t' _ s2 ⟨.bl _, H2, I2, rfl, q⟩
theorem pc_lt (ha : PE X a ta) (hb : PE X b tb) : PC X .Lt a b (tLt ta tb) := pc_int ha hb fun _ _ _ _ _ _ h => lt_int h
theorem pc_gt (ha : PE X a ta) (hb : PE X b tb) : PC X .Gt a b (tGt ta tb) := pc_int ha hb fun _ _ _ _ _ _ h => gt_int h
theorem pc_ge (ha : PE X a ta) (hb : PE X b tb) : PC X .GtE a b (tGe ta tb) := pc_int ha hb fun _ _ _ _ _ _ h => ge_int h
theorem pc_eqI (ha : PE X a ta) (hb : PE X b tb) : PC X .Eq a b (tEqI ta tb) := pc_int ha hb fun _ _ _ _ _ _ h => eq_int (by rw [Bool.beq_eq_decide_eq]; exact h)
theorem pc_neI (ha : PE X a ta) (hb : PE X b tb) : PC X .NotEq a b (tNeI ta tb) := pc_int ha hb fun _ _ _ _ _ _ h => ne_int (by rw [bne, Bool.beq_eq_decide_eq]; exact h)
/-- a comparison as a value, as a test -/
def tB (t : TE) : TT := fun σ H Q => t σ H fun x H1 => ∃ c, x = .bl c ∧ Q c H1
theorem pe_cmp {op : CmpOp} {t : TE} (h : PC X op a b t) (h1 : behindInMarks op b = false := by first | exact nobehind _ (by decide) (by decide) | rfl) : PE X (.Compare a [op] [b] pos) t := fun pins s σ H Q I hw => wpAny_Compare1 (h pins s σ H Q I hw) h1
theorem pt_cmp {op : CmpOp} {t : TE} (h : PC X op a b t) (h1 : behindInMarks op b = false := by first | exact nobehind _ (by decide) (by decide) | rfl) : PT X (.Compare a [op] [b] pos) (tB t) := by
  intro pins s σ H Q I hw
  refine wpAny_isTrue_Compare1 (thn (h pins s σ H _ I hw) fun v s1 h1 => thn h1 fun u s2 h2 => thn h2 fun c s3 ⟨x, H1, I1, r1, q1⟩ => ?_) h1
  obtain ⟨d, rfl, q⟩ := q1
  cases r1
  exact wpAny_truthy_bool ⟨H1, I1, q⟩
/-- an expression whose value is a bool, as a test -/
theorem pt_val {e : Expr} {t : TE} (h : PE X e t) (he : ∀ whole, isTrue e X.env whole = (do let v ← whole; standAt e.pos; holding [v] (truthy v)) := by intro _; rfl) : PT X e (tB t) := by
  intro pins s σ H Q I hw
  refine isTrue_plain (thn (h pins s σ H _ I hw) fun v s1 ⟨x, H1, I1, r1, q1⟩ => ?_) (he _)
  obtain ⟨d, rfl, q⟩ := q1
  cases r1
  exact wpAny_truthy_bool ⟨H1, I1, q⟩

/-! ### and, or, not -/
variable {tA tB' : TT} {rest : List Expr}
def tAnd (t u : TT) : TT := fun σ H Q => t σ H fun c H1 => if c = true then u σ H1 Q else Q false H1
def tOr (t u : TT) : TT := fun σ H Q => t σ H fun c H1 => if c = true then Q true H1 else u σ H1 Q
def tNot (t : TT) : TT := fun σ H Q => t σ H fun c H1 => Q (!c) H1
theorem pw_and1 (ha : PT X a tA) : PW X (.BoolOp .And [a] pos) tA := by
  intro wh pins s σ H Q I h
  refine isTrue_and (thn (ha pins s σ H Q I h) fun c s1 e => ?_)
  cases c with
  | true => exact isTrue_and_nil e
  | false => exact e
theorem pw_or1 (ha : PT X a tA) : PW X (.BoolOp .Or [a] pos) tA := by
  intro wh pins s σ H Q I h
  refine isTrue_or (thn (ha pins s σ H Q I h) fun c s1 e => ?_)
  cases c with
  | false => exact isTrue_or_nil e
  | true => exact e
theorem pw_and (ha : PT X a tA) (hb : PW X (.BoolOp .And (b :: rest) pos) tB') : PW X (.BoolOp .And (a :: b :: rest) pos) (tAnd tA tB') := by
  intro wh pins s σ H Q I h
  refine isTrue_and (thn (ha pins s σ H _ I h) fun c s1 ⟨H1, I1, q1⟩ => ?_)
  cases c with
  | true => exact hb wh pins s1 σ H1 Q I1 q1
  | false => exact ⟨H1, I1, q1⟩
theorem pw_or (ha : PT X a tA) (hb : PW X (.BoolOp .Or (b :: rest) pos) tB') : PW X (.BoolOp .Or (a :: b :: rest) pos) (tOr tA tB') := by
  intro wh pins s σ H Q I h
  refine isTrue_or (thn (ha pins s σ H _ I h) fun c s1 ⟨H1, I1, q1⟩ => ?_)
  cases c with
  | true => exact ⟨H1, I1, q1⟩
  | false => exact hb wh pins s1 σ H1 Q I1 q1
theorem pt_not (ha : PT X a tA) : PT X (.UnaryOp .Not a pos) (tNot tA) := by
  intro pins s σ H Q I h
  exact isTrue_not (ha pins s σ H (fun c H1 => Q (!c) H1) I h)
/-- .. as values (bools) -/
def tAndV (ta tb : TE) : TE := fun σ H Q => ta σ H fun x H1 => ∃ c, x = .bl c ∧ if c = true then tb σ H1 Q else Q (.bl false) H1
def tNotV (ta : TE) : TE := fun σ H Q => ta σ H fun x H1 => ∃ c, x = .bl c ∧ Q (.bl (!c)) H1
theorem pe_one {op} {t : TE} (h : PE X a t) : PE X (.BoolOp op [a] pos) t := fun pins s σ H Q I hw => BoolOp_one (h pins s σ H Q I hw)
theorem pe_and (ha : PE X a ta) (hb : PE X (.BoolOp .And (b :: rest) pos) tb) : PE X (.BoolOp .And (a :: b :: rest) pos) (tAndV ta tb) := by
  intro pins s σ H Q I h
  refine BoolOp_and (thn (ha pins s σ H _ I h) fun v s1 ⟨x, H1, I1, r1, q1⟩ => ?_)
  obtain ⟨c, rfl, q1⟩ := q1
  cases r1
  refine wpAny_truthy_bool ?_
  cases c with
  | true => exact hb pins s1 σ H1 Q I1 q1
  | false => exact ⟨.bl false, H1, I1, rfl, q1⟩
theorem pe_not (ha : PE X a ta) : PE X (.UnaryOp .Not a pos) (tNotV ta) := by
  intro pins s σ H Q I h
  refine UnaryOp_ (thn (ha pins s σ H _ I h) fun v s1 ⟨x, H1, I1, r1, q1⟩ => ?_)
  obtain ⟨c, rfl, q1⟩ := q1
  cases r1
  exact not_of (wpAny_truthy_bool ⟨.bl (!c), H1, I1, rfl, q1⟩)
/-- a if t else b -/
def tIf (t : TT) (ta tb : TE) : TE := fun σ H Q => t σ H fun c H1 => if c = true then ta σ H1 Q else tb σ H1 Q
theorem pe_ifExp {c : Expr} (hc : PT X c tA) (ha : PE X a ta) (hb : PE X b tb) : PE X (.IfExp c a b pos) (tIf tA ta tb) := by
  intro pins s σ H Q I h
  refine wpAny_IfExp (thn (hc pins s σ H _ I h) fun d s1 ⟨H1, I1, q1⟩ => ?_)
  cases d with
  | true => exact ha pins s1 σ H1 Q I1 q1
  | false => exact hb pins s1 σ H1 Q I1 q1
end
end L2

namespace L2
open PySem PySem.Spec PyProof.Rows

/-! ### a list, a tuple that is read: tracked, frozen, or an object of the module -/
def SqL (K : PySem.W.Frag) (H : Hp) (a : Addr) (xs : List V) : Prop :=
  Rd H a (.lst xs) ∨
    ∃ (o : Obj) (its : Array Value) (n : Nat), K.lookup a = some o ∧ o.cls = .type "list" ∧ o.dict = none ∧ o.data = .seq its n ∧ its.size ≤ sizeLine ∧ Vals xs its.toList
def SqT (K : PySem.W.Frag) (H : Hp) (a : Addr) (xs : List V) : Prop :=
  Rd H a (.tup xs) ∨
    ∃ (o : Obj) (its : Array Value) (n : Nat), K.lookup a = some o ∧ o.cls = .type "tuple" ∧ o.data = .seq its n ∧ its.size ≤ sizeLine ∧ Vals xs its.toList
def absV : Value → Option V
  | .none => some .non
  | .bool b => some (.bl b)
  | .int i _ => some (.int i)
  | .str x _ => some (.str x)
  | .bytes b _ => some (.byt b)
  | .float b _ => some (.flt b)
  | .ref a => some (.ref a)
  | .type n => some (.ty n)
  | _ => none
theorem RelV.abs {x : V} {u : Value} (r : RelV x u) : absV u = some x := by
  cases x with
  | non => cases r; rfl
  | bl _ => cases r; rfl
  | int _ => obtain ⟨t, rfl⟩ := r; rfl
  | str _ => obtain ⟨t, rfl⟩ := r; rfl
  | byt _ => obtain ⟨t, rfl⟩ := r; rfl
  | flt _ => obtain ⟨t, rfl⟩ := r; rfl
  | ref _ => cases r; rfl
  | ty _ => cases r; rfl
theorem RelV.inj {x y : V} {u : Value} (r : RelV x u) (q : RelV y u) : x = y := Option.some.inj (r.abs.symm.trans q.abs)
theorem Vals.inj : ∀ {xs ys : List V} {us : List Value}, Vals xs us → Vals ys us → xs = ys
  | _, _, _, .nil, .nil => rfl
  | _, _, _, .cons r t, .cons r' t' => by rw [r.inj r', Vals.inj t t']
section
variable {X : Cx} {pins : List (Addr × Obj)} {σ : St} {H : Hp} {s : Shared} {a : Addr} {xs ys : List V}
theorem SqL.of {K : PySem.W.Frag} (h : H a = some (.lst xs)) : SqL K H a xs := .inl (.inl h)
theorem SqT.of {K : PySem.W.Frag} (h : H a = some (.tup xs)) : SqT K H a xs := .inl (.inl h)
theorem Inv.list (I : Inv X pins σ H s) (h : SqL X.K H a xs) : ∃ its : List Value, Vals xs its ∧ PlainL s.heap a its.toArray ∧ xs.length ≤ sizeLine := by
  rcases h with h | ⟨o, its, n, hk, hc, hd, hs, hz, r⟩
  · obtain ⟨z, its, n, r, e⟩ := h.ok I.hok
    exact ⟨its, r, ⟨_, n, e, rfl, rfl, rfl⟩, z⟩
  · refine ⟨its.toList, r, ⟨o, n, I.kIn a o hk, hc, hd, by simpa using hs⟩, ?_⟩
    have e := r.length
    simp only [Array.length_toList] at e
    omega
theorem Inv.tuple (I : Inv X pins σ H s) (h : SqT X.K H a xs) : ∃ its : List Value, Vals xs its ∧ IsTup s.heap a its.toArray ∧ xs.length ≤ sizeLine := by
  rcases h with h | ⟨o, its, n, hk, hc, hs, hz, r⟩
  · obtain ⟨z, its, r, p⟩ := h.ok I.hok
    exact ⟨its, r, p, z⟩
  · refine ⟨its.toList, r, ⟨o, I.kIn a o hk, hc, n, by simpa using hs⟩, ?_⟩
    have e := r.length
    simp only [Array.length_toList] at e
    omega
theorem Inv.list_inj (I : Inv X pins σ H s) (h : SqL X.K H a xs) (h' : SqL X.K H a ys) : xs = ys := by
  obtain ⟨its, r, ⟨o, n, e, _, _, d⟩, _⟩ := I.list h
  obtain ⟨its', r', ⟨o', n', e', _, _, d'⟩, _⟩ := I.list h'
  rw [e] at e'; cases e'
  rw [d] at d'
  injection d' with d1 _
  have : its = its' := by simpa using congrArg Array.toList d1
  subst this
  exact r.inj r'
theorem Inv.tuple_inj (I : Inv X pins σ H s) (h : SqT X.K H a xs) (h' : SqT X.K H a ys) : xs = ys := by
  obtain ⟨its, r, ⟨o, e, _, n, d⟩, _⟩ := I.tuple h
  obtain ⟨its', r', ⟨o', e', _, n', d'⟩, _⟩ := I.tuple h'
  rw [e] at e'; cases e'
  rw [d] at d'
  injection d' with d1 _
  have : its = its' := by simpa using congrArg Array.toList d1
  subst this
  exact r.inj r'
end

/-! ### another wish about exceptions -/
abbrev Cx.wish (X : Cx) (E : Value → Shared → Prop) : Cx := { X with xe := E }
/-- no exception leaves -/
abbrev Cx.nox (X : Cx) : Cx := X.wish fun _ _ => False
theorem Cx.Ok.wish {X : Cx} (ok : X.Ok) (E : Value → Shared → Prop) : (X.wish E).Ok :=
  ⟨ok.mod, ok.kind, ok.glob, ok.blt, ok.above, ok.inj, ok.has, ok.cab, ok.hd, ok.frames, ok.stk, ok.exf, ok.bs, ok.bsz, ok.noex, ok.exfs, ok.funs, ok.frf⟩
theorem Cx.Ok.unwish {X : Cx} {E : Value → Shared → Prop} (ok : (X.wish E).Ok) : X.Ok :=
  ⟨ok.mod, ok.kind, ok.glob, ok.blt, ok.above, ok.inj, ok.has, ok.cab, ok.hd, ok.frames, ok.stk, ok.exf, ok.bs, ok.bsz, ok.noex, ok.exfs, ok.funs, ok.frf⟩
section
variable {X : Cx} {pins : List (Addr × Obj)} {σ : St} {H : Hp} {s : Shared} {E : Value → Shared → Prop}
theorem Inv.wish (I : Inv X pins σ H s) (E : Value → Shared → Prop) : Inv (X.wish E) pins σ H s := ⟨I.ok.wish E, I.os, I.bare, I.base, I.loc, I.cell, I.free, I.freeC, I.pin, I.hok, I.len⟩
theorem Inv.unwish (I : Inv (X.wish E) pins σ H s) : Inv X pins σ H s := ⟨I.ok.unwish, I.os, I.bare, I.base, I.loc, I.cell, I.free, I.freeC, I.pin, I.hok, I.len⟩
theorem SP.unwish {D : Ends} {f : Flow} {s' : Shared} (h : SP (X.wish E) pins D f s') : SP X pins D f s' := by
  cases f with
  | next => obtain ⟨σ', H', I, q⟩ := h; exact ⟨σ', H', I.unwish, q⟩
  | brk => obtain ⟨σ', H', I, q⟩ := h; exact ⟨σ', H', I.unwish, q⟩
  | cont => obtain ⟨σ', H', I, q⟩ := h; exact ⟨σ', H', I.unwish, q⟩
  | ret u => obtain ⟨v, σ', H', I, r, q⟩ := h; exact ⟨v, σ', H', I.unwish, r, q⟩
theorem PE.nox {e : Expr} {t : TE} (h : PE X.nox e t) : PE X e t := fun pins s σ H Q I hw =>
  wpAny_mono (h pins s σ H Q (I.wish _) hw) (fun _ _ ⟨v, H', I', r, q⟩ => ⟨v, H', I'.unwish, r, q⟩) fun _ _ z => False.elim z
theorem PT.nox {e : Expr} {t : TT} (h : PT X.nox e t) : PT X e t := fun pins s σ H Q I hw =>
  wpAny_mono (h pins s σ H Q (I.wish _) hw) (fun _ _ ⟨H', I', q⟩ => ⟨H', I'.unwish, q⟩) fun _ _ z => False.elim z
theorem PSs.nox {st : List Stmt} {t : TS} (h : PSs X.nox st t) : PSs X st t := fun pins s σ H D I hw =>
  wpAny_mono (h pins s σ H D (I.wish _) hw) (fun _ _ q => q.unwish) fun _ _ z => False.elim z
end

/-! ### blocks and small statements -/
section
variable {X : Cx} {st : Stmt} {rest : List Stmt} {t u : TS} {e : Expr} {te : TE} {pos : Pos}
def tNext : TS := fun D σ H => D.nx σ H
def tSeq (t u : TS) : TS := fun D σ H => t { D with nx := u D } σ H
theorem pss_nil : PSs X [] tNext := fun _ _ σ H _ I h => wpAny_execs_nil ⟨σ, H, I, h⟩
theorem pss_cons (h1 : PS X st t) (h2 : PSs X rest u) : PSs X (st :: rest) (tSeq t u) := by
  intro pins s σ H D I h
  refine wpAny_execs_cons (thn (h1 pins s σ H { D with nx := u D } I h) fun f s1 q => ?_)
  cases f with
  | next =>
    obtain ⟨σ', H', I', q⟩ := q
    exact h2 pins s1 σ' H' D I' q
  | ret v => exact q
  | brk => exact q
  | cont => exact q
theorem pss_one (h1 : PS X st t) : PSs X [st] t := by
  intro pins s σ H D I h
  refine wpAny_execs_cons (thn (h1 pins s σ H D I h) fun f s1 q => ?_)
  cases f with
  | next => exact wpAny_execs_nil q
  | ret v => exact q
  | brk => exact q
  | cont => exact q
/-- in a def's body nothing is shown -/
theorem Inv.quiet {pins : List (Addr × Obj)} {σ : St} {H : Hp} {s : Shared} (I : Inv X pins σ H s) : interactive X.env = false := by simp [interactive, I.ok.kind]
/-- an expression whose value is dropped -/
def tDrop (te : TE) : TS := fun D σ H => te σ H fun _ H1 => D.nx σ H1
theorem ps_expr (he : PE X e te) (hs : swapsWith e none pos.line X.env = pure false := by rfl) : PS X (.Expr e pos) (tDrop te) := by
  intro pins s σ H D I h
  exact wpAny_Expr_any (thn (he pins s σ H _ I h) fun v s1 ⟨x, H1, I1, r1, q1⟩ => ⟨σ, H1, I1, q1⟩) I.quiet hs
def tRet (te : TE) : TS := fun D σ H => te σ H D.rt
theorem ps_ret (he : PE X e te) : PS X (.Return (some e) pos) (tRet te) := by
  intro pins s σ H D I h
  exact wpAny_Return_some (thn (he pins s σ H _ I h) fun v s1 ⟨x, H1, I1, r1, q1⟩ => ⟨x, σ, H1, I1, r1, q1⟩)
def tIfS (c : TT) (t u : TS) : TS := fun D σ H => c σ H fun b H1 => if b = true then t D σ H1 else u D σ H1
theorem ps_if {c : Expr} {a b : List Stmt} {tc : TT} (hc : PT X c tc) (ha : PSs X a t) (hb : PSs X b u) : PS X (.If c a b pos) (tIfS tc t u) := by
  intro pins s σ H D I h
  refine wpAny_If (thn (hc pins s σ H _ I h) fun d s1 ⟨H1, I1, q1⟩ => ?_)
  cases d with
  | true => exact ha pins s1 σ H1 D I1 q1
  | false => exact hb pins s1 σ H1 D I1 q1
/-- code that the proof never comes to -/
def tNever : TS := fun _ _ _ => False
theorem pss_never {sts : List Stmt} : PSs X sts tNever := fun _ _ _ _ _ _ h => h.elim
end

/-! ### targets -/
abbrev TG := V → St → Hp → (St → Hp → Prop) → Prop
abbrev TGs := List V → St → Hp → (St → Hp → Prop) → Prop
def PG (X : Cx) (target : Expr) (t : TG) : Prop :=
  ∀ (pins : List (Addr × Obj)) (s : Shared) (σ : St) (H : Hp) (v : V) (u : Value) (Q : St → Hp → Prop), Inv X pins σ H s → RelV v u → t v σ H Q →
    wpAny (model X.prog X.w) X.A (assign target X.env u) (fun _ s' => ∃ σ' H', Inv X pins σ' H' s' ∧ Q σ' H') X.xe s
/-- several targets, one after another -/
def PGs (X : Cx) (ts : List Expr) (t : TGs) : Prop :=
  ∀ (pins : List (Addr × Obj)) (s : Shared) (σ : St) (H : Hp) (vs : List V) (us : List Value) (Q : St → Hp → Prop), Inv X pins σ H s → Vals vs us → t vs σ H Q →
    wpAny (model X.prog X.w) X.A (assignInOrder ((assignEach ts X.env).map (·.2)) us) (fun _ s' => ∃ σ' H', Inv X pins σ' H' s' ∧ Q σ' H') X.xe s
/-- a op= b, by values -/
abbrev TIp := V → V → Hp → VK → Prop
def PIp (X : Cx) (op : Operator) (t : TIp) : Prop :=
  ∀ (pins : List (Addr × Obj)) (s : Shared) (σ : St) (H : Hp) (x y : V) (v u : Value) (Q : VK), Inv X pins σ H s → RelV x v → RelV y u → t x y H Q →
    wpAny (model X.prog X.w) X.A (inplaceOp op v u) (EP X pins σ Q) X.xe s
section
variable {X : Cx} {pos : Pos}
def gName (i : Nat) : TG := fun v σ H Q => Q (σ.set i (some v)) H
theorem pg_name {i : Nat} {x : Str} (hN : X.N.Nodup) (hi : X.N[i]? = some x) (hx : Loc X.env.scope x) (hf : X.fn x = true ∨ X.env.scope.names.lookup x = some .local := by first | exact .inl rfl | exact .inr rfl | assumption) : PG X (.Name x pos) (gName i) := by
  intro pins s σ H v u Q I r h
  exact wpAny_assign_Name (store_ok I hN hi hx r (fun s' I' => ⟨_, H, I', h⟩) hf)
def gNil : TGs := fun vs σ H Q => vs = [] ∧ Q σ H
def gCons (t : TG) (u : TGs) : TGs := fun vs σ H Q => ∃ v r, vs = v :: r ∧ t v σ H fun σ' H' => u r σ' H' Q
theorem pgs_nil : PGs X [] gNil := by
  intro pins s σ H vs us Q I r h
  obtain ⟨e, h⟩ := h
  subst e
  cases r
  exact assignInOrder_nil ⟨σ, H, I, h⟩
theorem pgs_cons {e : Expr} {es : List Expr} {t : TG} {u : TGs} (h1 : PG X e t) (h2 : PGs X es u)
    (hs : (assignEach (e :: es) X.env).map (·.2) = assign e X.env :: (assignEach es X.env).map (·.2) := by rfl) : PGs X (e :: es) (gCons t u) := by
  intro pins s σ H vs us Q I r h
  obtain ⟨v, vr, e1, h⟩ := h
  subst e1
  cases r with
  | cons r rr =>
    rw [hs]
    refine assignInOrder_cons (thn (h1 pins s σ H _ _ _ I r h) fun _ s1 ⟨σ1, H1, I1, q1⟩ => ?_)
    exact h2 pins s1 σ1 H1 _ _ Q I1 rr q1
/-- (a, b, ..) = a tuple of that length -/
def gTup (K : PySem.W.Frag) (n : Nat) (t : TGs) : TG := fun v σ H Q => ∃ a xs, v = .ref a ∧ SqT K H a xs ∧ xs.length = n ∧ t xs σ H Q
theorem pg_tup {es : List Expr} {k : Nat} {t : TGs} {n : Nat} (hc : X.calm = true) (h : PGs X es t)
    (hn : (assignEach es X.env).length = n := by rfl) (hst : (assignEach es X.env).findIdx? (·.1) = none := by rfl) : PG X (.Tuple es k pos) (gTup X.K n t) := by
  intro pins s σ H v u Q I r hw
  obtain ⟨a, xs, e1, hq, hl, hw⟩ := hw
  subst e1
  cases r
  obtain ⟨its, rv, ht, hz⟩ := I.tuple hq
  refine assign_Tuple_tuple (I.ok.hd hc) ht (by simp [hn, ← hl, rv.length]) hst fun h' hx => ?_
  have I1 : Inv X pins σ H { s with heap := h' } := I.kept (t' := s.toks) fun b o e => hx b o (Nat.ne_of_lt (Heap.lt_size e)) e
  exact h pins _ σ H xs _ Q I1 (by simpa using rv) hw
/-- target = value -/
def tAsg (te : TE) (g : TG) : TS := fun D σ H => te σ H fun x H1 => g x σ H1 D.nx
theorem ps_asg {tg e : Expr} {te : TE} {g : TG} (he : PE X e te) (hg : PG X tg g) (hs : swapsWithSole [tg] e pos.line X.env = pure false := by rfl) (hw : swappedStores [tg] e X.env = pure none := by rfl)
    (h1 : (assignEach [tg] X.env).map (·.2) = [assign tg X.env] := by rfl) : PS X (.Assign [tg] e pos) (tAsg te g) := by
  intro pins s σ H D I h
  refine wpAny_Assign_stores (thn (he pins s σ H _ I h) fun v s1 ⟨x, H1, I1, r1, q1⟩ => ?_) hs hw
  rw [h1]
  exact thn (hg pins s1 σ H1 x v _ I1 r1 q1) fun _ s2 q => q
/-- name = value -/
theorem ps_set {i : Nat} {x : Str} {e : Expr} {te : TE} {pos' : Pos} (hN : X.N.Nodup) (hi : X.N[i]? = some x) (hx : Loc X.env.scope x) (he : PE X e te) (hs : swapsWith e (some (.Name x pos')) pos.line X.env = pure false := by rfl) (hf : X.fn x = true ∨ X.env.scope.names.lookup x = some .local := by first | exact .inl rfl | exact .inr rfl | assumption) :
    PS X (.Assign [.Name x pos'] e pos) (tAsg te (gName i)) := by
  intro pins s σ H D I h
  refine wpAny_Assign_Name (thn (he pins s σ H _ I h) fun v s1 ⟨y, H1, I1, r1, q1⟩ => ?_) hs
  exact store_ok I1 hN hi hx r1 (fun s2 I2 => ⟨_, H1, I2, q1⟩) hf
/-- a, b = x, y with plain local names: stored from the right; the pair itself is not tracked (the opening rows as in PyProof/Rows/TupAssign.lean:23) -/
def tPar (i j : Nat) (ta : TA) : TS := fun D σ H => ta σ H fun vs H1 => ∃ v w, vs = [v, w] ∧ D.nx ((σ.set i (some v)).set j (some w)) H1
theorem ps_par {i j : Nat} {x y : Str} {a b : Expr} {ta : TA} {px py pt : Pos} {kt k2 pt2} (hc : X.calm = true) (hN : X.N.Nodup) (hi : X.N[i]? = some x) (hj : X.N[j]? = some y) (hij : i ≠ j)
    (hx : X.env.scope.names.lookup x = some .local) (hy : X.env.scope.names.lookup y = some .local) (ha : PA X [a, b] ta)
    (hw : swappedStores [.Tuple [.Name x px, .Name y py] kt pt] (.Tuple [a, b] k2 pt2) X.env = pure (some [x, y]))
    (hs : swapsWithSole [.Tuple [.Name x px, .Name y py] kt pt] (.Tuple [a, b] k2 pt2) pos.line X.env = pure false := by rfl) :
    PS X (.Assign [.Tuple [.Name x px, .Name y py] kt pt] (.Tuple [a, b] k2 pt2) pos) (tPar i j ta) := by
  intro pins s σ H D I h
  rw [exec_Assign_arm]
  refine wpAny_bind (wpAny_standAt ?_)
  rw [hs]
  refine wpAny_bind (wpAny_pure ?_)
  rw [if_neg (by decide)]
  refine wpAny_bind (Tuple_ (thn (ha _ pins s σ H _ I h) fun us s1 ⟨vs, H1, I1, r1, q1⟩ => ?_))
  obtain ⟨v, w, e1, q1⟩ := q1
  subst e1
  obtain ⟨u1, u2, rfl, rv, rw'⟩ : ∃ u1 u2, us = [u1, u2] ∧ RelV v u1 ∧ RelV w u2 := by
    cases r1 with
    | cons p q =>
      cases q with
      | cons p' q' =>
        cases q'
        exact ⟨_, _, rfl, p, p'⟩
  refine wpAny_newObj_type ?_ (by show 2 ≤ sizeLine; decide)
  have I2 : Inv X pins σ H1 { s1 with heap := s1.heap.push { cls := .type "tuple", data := .seq [u1, u2].toArray } } := I1.kept (t' := s1.toks) fun b o e => Heap.get?_push_of_some _ e
  rw [hw]
  refine wpAny_bind (wpAny_pure ?_)
  show wpAny (model X.prog X.w) X.A (do rule "assign.swapped-stores"; let items ← unpackItems (.ref s1.heap.objs.size) 2 none; assignInOrder [fun v => bindName X.env y v, fun v => bindName X.env x v] items.reverse; pure Flow.next) _ _ _
  refine wpAny_bind (wpAny_rule (wpAny_bind (unpackItems_tuple (items := #[u1, u2]) (I.ok.hd hc) (IsTup.new s1.heap _) fun h' hx' => ?_)))
  have I3 := I2.kept (h' := h') (t' := s1.toks) fun b o e => hx' b o (Nat.ne_of_lt (Heap.lt_size e)) e
  show wpAny _ _ (assignInOrder [fun v => bindName X.env y v, fun v => bindName X.env x v] [u2, u1] >>= fun _ => pure Flow.next) _ _ _
  refine wpAny_bind (assignInOrder_cons (wpAny_bindName (store_ok I3 hN hj (.inl hy) rw' (fun s2 I4 => ?_) (.inr hy))))
  refine assignInOrder_cons (wpAny_bindName (store_ok I4 hN hi (.inl hx) rv (fun s3 I5 => assignInOrder_nil (wpAny_pure ?_)) (.inr hx)))
  rw [List.set_comm _ _ (Ne.symm hij)] at I5
  exact ⟨_, H1, I5, q1⟩
/-- name op= e -/
def tAug (i : Nat) (te : TE) (ti : TIp) : TS := fun D σ H => ∃ x, σ[i]? = some (some x) ∧ te σ H fun y H1 => ti x y H1 fun z H2 => D.nx (σ.set i (some z)) H2
theorem ps_aug {i : Nat} {x : Str} {e : Expr} {te : TE} {op : Operator} {ti : TIp} {pos' : Pos} (hN : X.N.Nodup) (hi : X.N[i]? = some x) (hx : Loc X.env.scope x) (he : PE X e te) (ho : PIp X op ti) (hf : X.fn x = true ∨ X.env.scope.names.lookup x = some .local := by first | exact .inl rfl | exact .inr rfl | assumption) :
    PS X (.AugAssign (.Name x pos') op e pos) (tAug i te ti) := by
  intro pins s σ H D I h
  obtain ⟨v, e1, h⟩ := h
  obtain ⟨m, hn, hl⟩ := I.loc
  have vis : Vis X.env.scope x := by rcases hx with k | k; exact .inl k; exact .inr (.inl k)
  obtain ⟨u, r, l⟩ := hl i x v hi e1 vis
  refine wpAny_AugAssign_Name ?_
  have go : wpAny (model X.prog X.w) X.A (eval e X.env) (fun w s₂ => wpAny (model X.prog X.w) X.A (inplaceOp op u w) (fun r s₃ => wpAny (model X.prog X.w) X.A (storeName X.env x r) (fun _ => SP X pins D .next) X.xe s₃) X.xe s₂) X.xe s := by
    refine thn (he pins s σ H _ I h) fun w s1 ⟨y, H1, I1, r1, q1⟩ => ?_
    refine thn (ho pins s1 σ H1 v y u w _ I1 r r1 q1) fun z s2 ⟨zv, H2, I2, r2, q2⟩ => ?_
    exact store_ok I2 hN hi hx r2 (fun s3 I3 => ⟨_, H2, I3, q2⟩) hf
  rcases l with ⟨hk, hm⟩ | ⟨hk, c, hc, hcell⟩
  · exact wpAny_loadName_local I.ok.kind hk hn hm go
  · rcases hk with hk | hk
    · exact wpAny_loadName_cell I.ok.kind hk hc hcell go
    · rcases hx with k | k
      · have : X.env.scope.names.lookup x = some .free := hk
        rw [k] at this; cases this
      · have : X.env.scope.names.lookup x = some .free := hk
        rw [k] at this; cases this
end

/-! ### while -/
section
variable {X : Cx} {pos : Pos}
/-- the invariant W with its measure -/
def tWhile (c : TT) (tb : TS) : TS := fun D σ H => ∃ W : Nat → St → Hp → Prop, (∃ m, W m σ H) ∧ ∀ m σ H, W m σ H →
  c σ H fun b H1 => if b = true then ∃ N : St → Hp → Prop, (∀ σ' H', N σ' H' → ∃ m', m' < m ∧ W m' σ' H') ∧ tb { D with nx := N, ct := N, bk := D.nx } σ H1 else D.nx σ H1
theorem ps_while {c : Expr} {body : List Stmt} {tc : TT} {tb : TS} (hp : PassesOwn (model X.prog X.w) X.A X.env X.xe) (hc : PT X c tc) (hb : PSs X body tb) : PS X (.While c body [] pos) (tWhile tc tb) := by
  intro pins s σ H D I h
  obtain ⟨W, ⟨m0, w0⟩, turn⟩ := h
  refine wpAny_While (codeAny_whileLoop (fun n s' => ∃ σ' H', Inv X pins σ' H' s' ∧ W n σ' H') ?_ m0 ⟨σ, H, I, w0⟩)
  rintro n s1 ⟨σ1, H1, I1, w1⟩
  refine wpAny_passesOwn hp (thn (hc pins s1 σ1 H1 _ I1 (turn n σ1 H1 w1)) fun b s2 ⟨H2, I2, q2⟩ => ?_)
  cases b with
  | true =>
    obtain ⟨N, hN, q2⟩ := q2
    rw [if_pos rfl]
    refine wpAny_passesOwn hp (thn (hb pins s2 σ1 H2 _ I2 q2) fun f s3 q3 => ?_)
    cases f with
    | next =>
      obtain ⟨σ3, H3, I3, n3⟩ := q3
      obtain ⟨m', hm, w3⟩ := hN σ3 H3 n3
      exact ⟨m', hm, σ3, H3, I3, w3⟩
    | cont =>
      obtain ⟨σ3, H3, I3, n3⟩ := q3
      obtain ⟨m', hm, w3⟩ := hN σ3 H3 n3
      exact ⟨m', hm, σ3, H3, I3, w3⟩
    | brk => exact q3
    | ret v => exact q3
  | false =>
    rw [if_neg Bool.false_ne_true]
    exact wpAny_execs_nil ⟨σ1, H2, I2, q2⟩
end

/-! ### what a loop or a comprehension walks -/
/-- at turn i: it yields x (the heap may grow), or it stops -/
structure It where
  go : Nat → Hp → Prop
  yld : Nat → Hp → V → Hp → Prop
  stop : Nat → Hp → Prop
/-- the iterator's own objects may turn: they are not the frame's, not pinned, younger than the entry (or a comprehension's own) -/
def FpOk (X : Cx) (pins : List (Addr × Obj)) (H : Hp) (b : Addr) : Prop :=
  H b = none ∧ b ≠ X.env.locals ∧ b ∉ X.fs ∧ (b ∈ X.ex ∨ X.s_0.heap.objs.size ≤ b) ∧ (∀ x c, X.env.cells.lookup x = some c → c ≠ b) ∧ ∀ p ∈ X.pn ++ pins, p.1 ≠ b
theorem Inv.fpOk {X : Cx} {pins : List (Addr × Obj)} {σ : St} {H H' : Hp} {s : Shared} {b : Addr} (I : Inv X pins σ H s) (hb : s.heap.objs.size ≤ b) (hn : H' b = none) : FpOk X pins H' b := by
  refine ⟨hn, Nat.ne_of_gt (Nat.lt_of_lt_of_le I.lt hb), I.nofs hb, .inr (Nat.le_trans I.sz hb), fun x c e z => ?_, fun p hp z => ?_⟩
  · obtain ⟨v, q⟩ := I.cell x c e
    exact absurd (Nat.lt_of_lt_of_le q.lt (by rw [z]; exact hb)) (Nat.lt_irrefl _)
  · exact absurd (Nat.lt_of_lt_of_le (Heap.lt_size (I.pin p hp).1) (by rw [z]; exact hb)) (Nat.lt_irrefl _)
structure Turn (P : Program) (w : World) (K : PySem.W.Frag) (tg : Expr) (J : It) (fp : List Addr) (it : Addr) (tn : Nat → Heap → Prop) : Prop where
  mem : it ∈ fp
  obj : ∀ i h, tn i h → ∀ b ∈ fp, ∃ o, h.get? b = some o ∧ ∀ v, o.data ≠ .cell v
  keep : ∀ i h h', tn i h → (∀ b ∈ fp, ∀ o, h.get? b = some o → h'.get? b = some o) → tn i h'
  item : ∀ (X : Cx), X.prog = P → X.w = w → X.K = K → X.calm = true → ∀ (i : Nat) (pins : List (Addr × Obj)) (s : Shared) (σ : St) (H : Hp) (E : Value → Shared → Prop), Inv X pins σ H s → (∀ b ∈ fp, FpOk X pins H b) → tn i s.heap → J.go i H →
    wpAny (model P w) X.A (pyNext (.ref it)) (fun r s1 => ∃ u, r = some u ∧
      wpAny (model P w) X.A (letOwnedTupleGo tg (.ref it) u) (fun _ s2 => ∃ x H', Inv X pins σ H' s2 ∧ RelV x u ∧ J.yld i H x H' ∧ tn (i + 1) s2.heap ∧ ∀ b ∈ fp, H' b = none) E s1) E s
  done : ∀ (X : Cx), X.prog = P → X.w = w → X.K = K → X.calm = true → ∀ (i : Nat) (pins : List (Addr × Obj)) (s : Shared) (σ : St) (H : Hp) (E : Value → Shared → Prop), Inv X pins σ H s → (∀ b ∈ fp, FpOk X pins H b) → tn i s.heap → J.stop i H →
    wpAny (model P w) X.A (pyNext (.ref it)) (fun r s1 => r = none ∧ Inv X pins σ H s1) E s
  self : ∀ (A : Around) (i : Nat) (s : Shared) (Q : Value → Shared → Prop) (E : Value → Shared → Prop), tn i s.heap → Q (.ref it) s → wpAny (model P w) A (pyIter (.ref it)) Q E s
abbrev TI := St → Hp → (It → Hp → Prop) → Prop
/-- an iterator has come -/
def PIE (X : Cx) (pins : List (Addr × Obj)) (σ : St) (tg : Expr) (R : It → Hp → Prop) (itv : Value) (s2 : Shared) : Prop :=
  ∃ (it : Addr) (fp : List Addr) (tn : Nat → Heap → Prop) (J : It) (H' : Hp), itv = .ref it ∧ Inv X pins σ H' s2 ∧ Turn X.prog X.w X.K tg J fp it tn ∧ tn 0 s2.heap ∧ (∀ b ∈ fp, FpOk X pins H' b) ∧ R J H'
def PI (X : Cx) (tg iter : Expr) (wi : TI) : Prop :=
  ∀ (pins : List (Addr × Obj)) (s : Shared) (σ : St) (H : Hp) (R : It → Hp → Prop), Inv X pins σ H s → wi σ H R →
    wpAny (model X.prog X.w) X.A (eval iter X.env) (fun v s1 => wpAny (model X.prog X.w) X.A (pyIter v) (PIE X pins σ tg R) X.xe s1) X.xe s

/-- the step ahead of the store is nothing for an iterator that keeps no tuple -/
theorem go_of {M : Model} {A : Around} {E : Value → Shared → Prop} {s : Shared} {tg : Expr} {it : Addr} {u : Value} {o : Obj} {n : String} {vs : Array Value} {Q : Unit → Shared → Prop} (ho : s.heap.get? it = some o) (hc : o.cls = .type n) (hd : o.data = .fields vs)
    (hn : ["enumerate", "zip", "dict_itemiterator", "dict_reverseitemiterator", "odict_iterator", "itertools.zip_longest", "itertools.pairwise"].contains n = false) (hQ : Q () s) : wpAny M A (letOwnedTupleGo tg (.ref it) u) Q E s := by
  unfold letOwnedTupleGo
  cases tg <;> first
    | exact wpAny_pure hQ
    | (cases u <;> first
        | exact wpAny_pure hQ
        | (refine wpAny_bind (wpAny_load ho ?_)
           rw [hc, hd]
           show wpAny M A (if (["enumerate", "zip", "dict_itemiterator", "dict_reverseitemiterator", "odict_iterator", "itertools.zip_longest", "itertools.pairwise"].contains n && vs[0]? == some (rawInt _)) = true then _ else _) Q E s
           rw [if_neg (by intro h; rw [hn, Bool.false_and] at h; cases h)]
           exact wpAny_pure hQ))

/-- the list at a, as it stands at each turn (a loop may append to it) -/
def Itl (K : PySem.W.Frag) (a : Addr) : It :=
  ⟨fun i H => ∃ xs x, SqL K H a xs ∧ xs[i]? = some x, fun i H x H' => H' = H ∧ ∀ xs, SqL K H a xs → xs[i]? = some x, fun i H => ∃ xs, SqL K H a xs ∧ xs.length ≤ i⟩
def Itt (K : PySem.W.Frag) (a : Addr) : It :=
  ⟨fun i H => ∃ xs x, SqT K H a xs ∧ xs[i]? = some x, fun i H x H' => H' = H ∧ ∀ xs, SqT K H a xs → xs[i]? = some x, fun i H => ∃ xs, SqT K H a xs ∧ xs.length ≤ i⟩
/-- lo, lo + 1, .. (n of them) -/
def Itr (lo : Int) (n : Nat) : It := ⟨fun i _ => i < n, fun i H x H' => H' = H ∧ x = .int (lo + i), fun i _ => n ≤ i⟩
theorem turn_list {P : Program} {w : World} {K : PySem.W.Frag} {tg : Expr} (a it : Addr) : Turn P w K tg (Itl K a) [it] it (fun i h => h.IsListIter it a i) where
  mem := by simp
  obj := fun i h st b hb => by
    have e : b = it := by simpa using hb
    subst e
    obtain ⟨o, e, c, d⟩ := st
    exact ⟨o, e, fun v z => by rw [d] at z; cases z⟩
  keep := fun i h h' st k => st.at fun o e => k it (by simp) o e
  item := by
    intro X hP hw hK hc i pins s σ H E I hf st hg
    subst hP hw hK
    obtain ⟨xs, x, hq, hx⟩ := hg
    obtain ⟨its, rv, p, hz⟩ := I.list hq
    obtain ⟨u, hu, ru⟩ := rv.get hx
    obtain ⟨f0, f1, f2, f3, f4, f5⟩ := hf it (by simp)
    refine wpAny_pyNext_list_item st p.isList (x := u) (by simpa using hu) fun h' st' sb => ?_
    have I1 : Inv X pins σ H { s with heap := h' } := I.turned (t' := s.toks) (fun b o hb e => (sb.2 b hb).trans e) f0 f1 f3 f4 f5
    obtain ⟨o, e, c, d⟩ := id st'
    exact ⟨u, rfl, go_of (s := { s with heap := h' }) e c d (by decide) ⟨x, H, I1, ru, ⟨rfl, fun ys hy => by rw [I.list_inj hy hq]; exact hx⟩, st', fun b hb => (hf b hb).1⟩⟩
  done := by
    intro X hP hw hK hc i pins s σ H E I hf st hg
    subst hP hw hK
    obtain ⟨xs, hq, hx⟩ := hg
    obtain ⟨its, rv, p, hz⟩ := I.list hq
    obtain ⟨f0, f1, f2, f3, f4, f5⟩ := hf it (by simp)
    have hl := rv.length
    exact wpAny_pyNext_list_end (I.ok.hd hc) st p.isList (by simp; omega) fun h' eb => ⟨rfl, I.turned (t' := s.toks) (fun b o hb e => eb b o hb e) f0 f1 f3 f4 f5⟩
  self := fun _ _ _ _ _ st h => wpAny_pyIter_listiter st h
theorem turn_tuple {P : Program} {w : World} {K : PySem.W.Frag} {tg : Expr} (a it : Addr) : Turn P w K tg (Itt K a) [it] it (fun i h => h.IsTupleIter it a i) where
  mem := by simp
  obj := fun i h st b hb => by
    have e : b = it := by simpa using hb
    subst e
    obtain ⟨o, e, c, d⟩ := st
    exact ⟨o, e, fun v z => by rw [d] at z; cases z⟩
  keep := fun i h h' st k => st.at fun o e => k it (by simp) o e
  item := by
    intro X hP hw hK hc i pins s σ H E I hf st hg
    subst hP hw hK
    obtain ⟨xs, x, hq, hx⟩ := hg
    obtain ⟨its, rv, p, hz⟩ := I.tuple hq
    obtain ⟨u, hu, ru⟩ := rv.get hx
    obtain ⟨f0, f1, f2, f3, f4, f5⟩ := hf it (by simp)
    refine wpAny_pyNext_tuple_item st (show s.heap.IsTuple a its.toArray from p) (x := u) (by simpa using hu) fun h' st' sb => ?_
    have I1 : Inv X pins σ H { s with heap := h' } := I.turned (t' := s.toks) (fun b o hb e => (sb.2 b hb).trans e) f0 f1 f3 f4 f5
    obtain ⟨o, e, c, d⟩ := id st'
    exact ⟨u, rfl, go_of (s := { s with heap := h' }) e c d (by decide) ⟨x, H, I1, ru, ⟨rfl, fun ys hy => by rw [I.tuple_inj hy hq]; exact hx⟩, st', fun b hb => (hf b hb).1⟩⟩
  done := by
    intro X hP hw hK hc i pins s σ H E I hf st hg
    subst hP hw hK
    obtain ⟨xs, hq, hx⟩ := hg
    obtain ⟨its, rv, p, hz⟩ := I.tuple hq
    obtain ⟨f0, f1, f2, f3, f4, f5⟩ := hf it (by simp)
    have hl := rv.length
    exact wpAny_pyNext_tuple_end (I.ok.hd hc) st (show s.heap.IsTuple a its.toArray from p) (by simp; omega) fun h' eb => ⟨rfl, I.turned (t' := s.toks) (fun b o hb e => eb b o hb e) f0 f1 f3 f4 f5⟩
  self := fun _ _ _ _ _ st h => wpAny_pyIter_tupleiter st h
theorem turn_range {P : Program} {w : World} {K : PySem.W.Frag} {tg : Expr} (it : Addr) (lo : Int) (n : Nat) : Turn P w K tg (Itr lo n) [it] it (fun i h => IsRangeIter h it (lo + (i : Nat) * 1) ((n : Int) - (i : Nat)) 1) where
  mem := by simp
  obj := fun i h st b hb => by
    have e : b = it := by simpa using hb
    subst e
    exact ⟨_, st, fun v z => by
      have z' : Data.fields _ = Data.cell v := z
      cases z'⟩
  keep := fun i h h' st k => k it (by simp) _ st
  item := by
    intro X hP hw hK hc i pins s σ H E I hf st hg
    subst hP hw hK
    obtain ⟨f0, f1, f2, f3, f4, f5⟩ := hf it (by simp)
    have W := Walks.range (prog := X.prog) (w := X.w) (I.ok.hd hc) it lo 1 n
    refine W.item i s _ _ hg st fun v h' tk hv st' kk => ?_
    obtain ⟨t, rfl⟩ := hv
    have I1 : Inv X pins σ H { s with heap := h', toks := tk } := I.turned (fun b o hb e => kk b o (by simpa using hb) e) f0 f1 f3 f4 f5
    refine ⟨_, rfl, go_of (s := { s with heap := h', toks := tk }) (n := "range_iterator") st' rfl rfl (by decide) ⟨.int (lo + i), H, I1, ⟨t, ?_⟩, ⟨rfl, rfl⟩, st', fun b hb => (hf b hb).1⟩⟩
    rw [Int.mul_one]
  done := by
    intro X hP hw hK hc i pins s σ H E I hf st hg
    subst hP hw hK
    obtain ⟨f0, f1, f2, f3, f4, f5⟩ := hf it (by simp)
    exact wpAny_pyNext_range_end (I.ok.hd hc) st (by have : n ≤ i := hg; omega) fun h' eb => ⟨rfl, I.turned (t' := s.toks) (fun b o hb e => eb b o hb e) f0 f1 f3 f4 f5⟩
  self := fun _ _ _ _ _ st h => wpAny_pyIter_rangeiter st h
end L2

namespace L2
open PySem PySem.Spec PyProof.Rows
section
variable {X : Cx} {tg : Expr}
def iList (K : PySem.W.Frag) (tl : TE) : TI := fun σ H R => tl σ H fun x H1 => ∃ a, x = .ref a ∧ (∃ xs, SqL K H1 a xs) ∧ R (Itl K a) H1
def iTup (K : PySem.W.Frag) (tl : TE) : TI := fun σ H R => tl σ H fun x H1 => ∃ a, x = .ref a ∧ (∃ xs, SqT K H1 a xs) ∧ R (Itt K a) H1
theorem pi_list {l : Expr} {tl : TE} (hl : PE X l tl) : PI X tg l (iList X.K tl) := by
  intro pins s σ H R I h
  refine thn (hl pins s σ H _ I h) fun v s1 ⟨x, H1, I1, r1, q1⟩ => ?_
  obtain ⟨a, e, ⟨xs, hq⟩, q⟩ := q1
  subst e
  cases r1
  obtain ⟨its, rv, p, hz⟩ := I1.list hq
  refine wpAny_pyIter_list p.isList ?_
  refine ⟨s1.heap.objs.size, [s1.heap.objs.size], _, _, H1, rfl, I1.kept (t' := s1.toks) fun b o e => Heap.get?_push_of_some _ e, turn_list a _, ⟨_, Heap.get?_push_size _ rfl, rfl, rfl⟩, fun b hb => ?_, q⟩
  have e : b = s1.heap.objs.size := by simpa using hb
  subst e
  exact I1.fpOk (Nat.le_refl _) (I1.hok.fresh (Nat.le_refl _))
theorem pi_tup {l : Expr} {tl : TE} (hl : PE X l tl) : PI X tg l (iTup X.K tl) := by
  intro pins s σ H R I h
  refine thn (hl pins s σ H _ I h) fun v s1 ⟨x, H1, I1, r1, q1⟩ => ?_
  obtain ⟨a, e, ⟨xs, hq⟩, q⟩ := q1
  subst e
  cases r1
  obtain ⟨its, rv, p, hz⟩ := I1.tuple hq
  refine wpAny_pyIter_tuple (show s1.heap.IsTuple a its.toArray from p) ?_
  refine ⟨s1.heap.objs.size, [s1.heap.objs.size], _, _, H1, rfl, I1.kept (t' := s1.toks) fun b o e => Heap.get?_push_of_some _ e, turn_tuple a _, ⟨_, Heap.get?_push_size _ rfl, rfl, rfl⟩, fun b hb => ?_, q⟩
  have e : b = s1.heap.objs.size := by simpa using hb
  subst e
  exact I1.fpOk (Nat.le_refl _) (I1.hok.fresh (Nat.le_refl _))
/-- a range object just made, walked -/
theorem range_it {pins : List (Addr × Obj)} {σ : St} {H : Hp} {s : Shared} {R : It → Hp → Prop} {E : Value → Shared → Prop} {lo hi : Int} {t u v : Tok} {tk : Nat} (I : Inv X pins σ H s) (h1 : -(2 ^ 62) ≤ lo) (h2 : lo < 2 ^ 62) (h3 : -(2 ^ 62) ≤ hi) (h4 : hi < 2 ^ 62)
    (q : R (Itr lo (hi - lo).toNat) H) : wpAny (model X.prog X.w) X.A (pyIter (.ref s.heap.objs.size)) (PIE X pins σ tg R) E { s with heap := s.heap.push { cls := .type "range", data := .fields #[.int lo t, .int hi u, .int 1 v] }, toks := tk } := by
  refine wpAny_pyIter_range (IsRange.new ..) (small_one h1 h2 h3 h4) ?_
  have I1 : Inv X pins σ H { s with heap := s.heap.push { cls := .type "range", data := .fields #[.int lo t, .int hi u, .int 1 v] }, toks := tk } := I.kept fun b o e => Heap.get?_push_of_some _ e
  refine ⟨(s.heap.push { cls := .type "range", data := .fields #[.int lo t, .int hi u, .int 1 v] }).objs.size, [(s.heap.push { cls := .type "range", data := .fields #[.int lo t, .int hi u, .int 1 v] }).objs.size], _, _, H, rfl,
    I1.kept (t' := tk) fun b o e => Heap.get?_push_of_some _ e, turn_range _ lo (hi - lo).toNat, ?_, fun b hb => ?_, q⟩
  · have e1 : lo + ((0 : Nat) : Int) * 1 = lo := by simp
    have e2 : (((hi - lo).toNat : Nat) : Int) - ((0 : Nat) : Int) = Builtin.Range.rangeSize lo hi 1 := by rw [rangeSize_one]; split <;> omega
    show IsRangeIter _ _ (lo + ((0 : Nat) : Int) * 1) ((((hi - lo).toNat : Nat) : Int) - ((0 : Nat) : Int)) 1
    rw [e1, e2]
    exact Heap.get?_push_size _ rfl
  · have e : b = (s.heap.push { cls := .type "range", data := .fields #[.int lo t, .int hi u, .int 1 v] }).objs.size := by simpa using hb
    subst e
    exact I1.fpOk (Nat.le_refl _) (I1.hok.fresh (Nat.le_refl _))
def iRng1 (ta : TA) : TI := fun σ H R => ta σ H fun vs H1 => ∃ j : Int, vs = [.int j] ∧ -(2 ^ 62) ≤ j ∧ j < 2 ^ 62 ∧ R (Itr 0 j.toNat) H1
def iRng2 (ta : TA) : TI := fun σ H R => ta σ H fun vs H1 => ∃ i j : Int, vs = [.int i, .int j] ∧ (-(2 ^ 62) ≤ i ∧ i < 2 ^ 62 ∧ -(2 ^ 62) ≤ j ∧ j < 2 ^ 62) ∧ R (Itr i (j - i).toNat) H1
theorem pi_range1 {a : Expr} {ta : TA} {p pos : Pos} (hg : Gl X "range") (hm : X.mg "range" = none) (ha : PA X [a] ta) (hs : starEach [a] X.env = [(false, eval a X.env)] := by rfl) : PI X tg (.Call (.Name "range" p) [a] [] pos) (iRng1 ta) := by
  intro pins s σ H R I h
  refine Call_ (ld_blt I hg hm boot_range (PyProof.Rows.callWith_type1 (thn (ha pos pins s σ H _ I h) fun us s1 ⟨vs, H1, I1, r1, q1⟩ => ?_) hs rfl))
  obtain ⟨j, e, q1, q2, q⟩ := q1
  subst e
  cases r1 with
  | cons r rr =>
    cases rr
    obtain ⟨t, rfl⟩ := r
    exact call_range_1 (range_it I1 (by omega) (by omega) q1 q2 (by simpa using q))
theorem pi_range2 {a b : Expr} {ta : TA} {p pos : Pos} (hg : Gl X "range") (hm : X.mg "range" = none) (ha : PA X [a, b] ta) (hs : starEach [a, b] X.env = [(false, eval a X.env), (false, eval b X.env)] := by rfl) (hs2 : starEach [b] X.env = [(false, eval b X.env)] := by rfl) :
    PI X tg (.Call (.Name "range" p) [a, b] [] pos) (iRng2 ta) := by
  intro pins s σ H R I h
  refine Call_ (ld_blt I hg hm boot_range (PyProof.Rows.callWith_type1 (thn (ha pos pins s σ H _ I h) fun us s1 ⟨vs, H1, I1, r1, q1⟩ => ?_) (by rw [hs, hs2]) (by rw [hs2]; rfl)))
  obtain ⟨i, j, e, ⟨q1, q2, q3, q4⟩, q⟩ := q1
  subst e
  cases r1 with
  | cons r rr =>
    cases rr with
    | cons r' rr =>
      cases rr
      obtain ⟨t, rfl⟩ := r
      obtain ⟨t', rfl⟩ := r'
      exact call_range_2 (range_it I1 q1 q2 q3 q4 q)

/-! ### for -/
/-- W: the invariant by the turn and a measure; N: what the body is to reach -/
def tFor (wi : TI) (g : TG) (tb : TS) : TS := fun D σ H => wi σ H fun J H1 => ∃ W : Nat → Nat → St → Hp → Prop, (∃ m, W 0 m σ H1) ∧ ∀ i m σ H, W i m σ H →
  (J.stop i H ∧ D.nx σ H) ∨ (J.go i H ∧ ∃ N : St → Hp → Prop, (∀ σ' H', N σ' H' → ∃ m', m' < m ∧ W (i + 1) m' σ' H') ∧ ∀ x H', J.yld i H x H' → g x σ H' fun σ2 H2 => tb { D with nx := N, ct := N, bk := D.nx } σ2 H2)
/-- the records at fp as they stand -/
def pinsAt (fp : List Addr) (h : Heap) : List (Addr × Obj) := fp.filterMap fun b => (h.get? b).map fun o => (b, o)
theorem mem_pinsAt {fp : List Addr} {h : Heap} {b : Addr} {o : Obj} (hb : b ∈ fp) (e : h.get? b = some o) : (b, o) ∈ pinsAt fp h := List.mem_filterMap.mpr ⟨b, hb, by rw [e]; rfl⟩
theorem of_pinsAt {fp : List Addr} {h : Heap} {p : Addr × Obj} (hp : p ∈ pinsAt fp h) : p.1 ∈ fp ∧ h.get? p.1 = some p.2 := by
  obtain ⟨b, hb, e⟩ := List.mem_filterMap.mp hp
  cases q : h.get? b with
  | none => rw [q] at e; cases e
  | some o =>
    rw [q] at e
    have e' : (b, o) = p := Option.some.inj e
    subst e'
    exact ⟨hb, q⟩
theorem Inv.pinned {pins : List (Addr × Obj)} {σ : St} {H : Hp} {s : Shared} {fp : List Addr} (I : Inv X pins σ H s) (hf : ∀ b ∈ fp, FpOk X pins H b) (ho : ∀ b ∈ fp, ∃ o, s.heap.get? b = some o ∧ ∀ v, o.data ≠ .cell v) : Inv X (pins ++ pinsAt fp s.heap) σ H s :=
  I.pins_of fun p hp => (List.mem_append.mp hp).elim (fun z => I.pin p (List.mem_append_right _ z)) fun z => by
    obtain ⟨hb, e⟩ := of_pinsAt z
    obtain ⟨f0, f1, f2, _⟩ := hf p.1 hb
    obtain ⟨o, e', d⟩ := ho p.1 hb
    rw [e] at e'; cases e'
    exact ⟨e, f0, f1, f2, d⟩
theorem Inv.unpinned {pins pl : List (Addr × Obj)} {σ : St} {H : Hp} {s : Shared} (I : Inv X (pins ++ pl) σ H s) : Inv X pins σ H s := I.pins_of fun p hp => I.pin p (List.mem_append_right _ (List.mem_append_left _ hp))
theorem ps_for {iter : Expr} {body : List Stmt} {wi : TI} {g : TG} {tb : TS} {pos : Pos} (hp : PassesOwn (model X.prog X.w) X.A X.env X.xe) (hc : X.calm = true) (hi : PI X tg iter wi) (hg : PG X tg g) (hb : PSs X body tb)
    (hs : ∀ x, foldedSetIterable iter X.env x = pure x := by intro _; rfl) : PS X (.For tg iter body [] pos) (tFor wi g tb) := by
  intro pins s σ H D I h
  refine wpAny_For (thn (hi pins s σ H _ I h) fun v s1 h1 => thn h1 fun itv s2 h2 => ?_) hs
  obtain ⟨it, fp, tn, J, H2, e, I2, T, st2, f2, W, ⟨m0, w0⟩, turn⟩ := h2
  subst e
  -- what stays true of the iterator's objects through the loop
  have stat : ∀ {H' : Hp}, (∀ b ∈ fp, H' b = none) → ∀ b ∈ fp, FpOk X pins H' b := fun hn b hb => ⟨hn b hb, (f2 b hb).2⟩
  refine codeAny_forLoop_any (fun n s' => ∃ i σ' H', Inv X pins σ' H' s' ∧ tn i s'.heap ∧ (∀ b ∈ fp, H' b = none) ∧ W i n σ' H') ?_ m0 ⟨0, σ, H2, I2, st2, fun b hb => (f2 b hb).1, w0⟩
  rintro n s3 ⟨i, σ3, H3, I3, st3, fr3, w3⟩
  rcases turn i n σ3 H3 w3 with ⟨stop, qn⟩ | ⟨go, N, hN, step⟩
  · refine wpAny_passesOwn hp (thn (T.done X rfl rfl rfl hc i pins s3 σ3 H3 X.xe I3 (stat fr3) st3 stop) fun r s4 ⟨hr, I4⟩ => ?_)
    subst hr
    exact wpAny_execs_nil ⟨σ3, H3, I4, qn⟩
  · refine wpAny_passesOwn hp (thn (T.item X rfl rfl rfl hc i pins s3 σ3 H3 X.xe I3 (stat fr3) st3 go) fun r s4 ⟨u, hr, h4⟩ => ?_)
    subst hr
    refine wpAny_passesOwn hp (thn h4 fun _ s5 ⟨x, H5, I5, r5, y5, st5, fr5⟩ => ?_)
    have I5' := I5.pinned (stat fr5) (T.obj _ _ st5)
    refine wpAny_passesOwn hp (thn (hg _ s5 σ3 H5 x u _ I5' r5 (step x H5 y5)) fun _ s6 ⟨σ6, H6, I6, q6⟩ => ?_)
    refine wpAny_passesOwn hp (thn (hb _ s6 σ6 H6 _ I6 q6) fun f s7 q7 => ?_)
    have again : ∀ {σ7 : St} {H7 : Hp}, Inv X (pins ++ pinsAt fp s5.heap) σ7 H7 s7 → N σ7 H7 → ∃ m, m < n ∧ ∃ i σ' H', Inv X pins σ' H' s7 ∧ tn i s7.heap ∧ (∀ b ∈ fp, H' b = none) ∧ W i m σ' H' := fun {σ7 H7} I7 n7 => by
      obtain ⟨m', hm, w7⟩ := hN σ7 H7 n7
      refine ⟨m', hm, i + 1, σ7, H7, I7.unpinned, T.keep _ _ _ st5 fun b hb o e => (I7.pin (b, o) (List.mem_append_right _ (List.mem_append_right _ (mem_pinsAt hb e)))).1, fun b hb => ?_, w7⟩
      obtain ⟨o, e, d⟩ := T.obj _ _ st5 b hb
      exact (I7.pin (b, o) (List.mem_append_right _ (List.mem_append_right _ (mem_pinsAt hb e)))).2.1
    cases f with
    | next => obtain ⟨σ7, H7, I7, n7⟩ := q7; exact again I7 n7
    | cont => obtain ⟨σ7, H7, I7, n7⟩ := q7; exact again I7 n7
    | brk => obtain ⟨σ7, H7, I7, q7⟩ := q7; exact ⟨σ7, H7, I7.unpinned, q7⟩
    | ret v => obtain ⟨x7, σ7, H7, I7, r7, q7⟩ := q7; exact ⟨x7, σ7, H7, I7.unpinned, r7, q7⟩
end

/-! ### the forms one uses -/
/-- over a list that the body leaves as it is -/
theorem for_list {K : PySem.W.Frag} {a : Addr} {xs : List V} {g : TG} {tb : TS} {D : Ends} {σ : St} {H : Hp} (Pv : Nat → St → Hp → Prop) (h0 : Pv 0 σ H) (hl : ∀ i σ H, i ≤ xs.length → Pv i σ H → SqL K H a xs)
    (hs : ∀ i x σ H, xs[i]? = some x → Pv i σ H → g x σ H fun σ2 H2 => tb { D with nx := Pv (i + 1), ct := Pv (i + 1), bk := D.nx } σ2 H2) (hd : ∀ σ H, Pv xs.length σ H → D.nx σ H) :
    ∃ W : Nat → Nat → St → Hp → Prop, (∃ m, W 0 m σ H) ∧ ∀ i m σ H, W i m σ H →
      ((Itl K a).stop i H ∧ D.nx σ H) ∨ ((Itl K a).go i H ∧ ∃ N : St → Hp → Prop, (∀ σ' H', N σ' H' → ∃ m', m' < m ∧ W (i + 1) m' σ' H') ∧ ∀ x H', (Itl K a).yld i H x H' → g x σ H' fun σ2 H2 => tb { D with nx := N, ct := N, bk := D.nx } σ2 H2) := by
  refine ⟨fun i m σ H => m = xs.length - i ∧ i ≤ xs.length ∧ Pv i σ H, ⟨xs.length, by simp, Nat.zero_le _, h0⟩, ?_⟩
  rintro i m σ H ⟨rfl, hi, p⟩
  have q := hl i σ H hi p
  by_cases hlt : i < xs.length
  · refine .inr ⟨⟨xs, xs[i], q, by simp [hlt]⟩, Pv (i + 1), fun σ' H' p' => ⟨xs.length - (i + 1), by omega, rfl, hlt, p'⟩, fun x H' y => ?_⟩
    obtain ⟨e, y⟩ := y
    subst e
    exact hs i x σ _ (y xs q) p
  · have e : i = xs.length := by omega
    subst e
    exact .inl ⟨⟨xs, q, Nat.le_refl _⟩, hd σ H p⟩
theorem for_tup {K : PySem.W.Frag} {a : Addr} {xs : List V} {g : TG} {tb : TS} {D : Ends} {σ : St} {H : Hp} (Pv : Nat → St → Hp → Prop) (h0 : Pv 0 σ H) (hl : ∀ i σ H, i ≤ xs.length → Pv i σ H → SqT K H a xs)
    (hs : ∀ i x σ H, xs[i]? = some x → Pv i σ H → g x σ H fun σ2 H2 => tb { D with nx := Pv (i + 1), ct := Pv (i + 1), bk := D.nx } σ2 H2) (hd : ∀ σ H, Pv xs.length σ H → D.nx σ H) :
    ∃ W : Nat → Nat → St → Hp → Prop, (∃ m, W 0 m σ H) ∧ ∀ i m σ H, W i m σ H →
      ((Itt K a).stop i H ∧ D.nx σ H) ∨ ((Itt K a).go i H ∧ ∃ N : St → Hp → Prop, (∀ σ' H', N σ' H' → ∃ m', m' < m ∧ W (i + 1) m' σ' H') ∧ ∀ x H', (Itt K a).yld i H x H' → g x σ H' fun σ2 H2 => tb { D with nx := N, ct := N, bk := D.nx } σ2 H2) := by
  refine ⟨fun i m σ H => m = xs.length - i ∧ i ≤ xs.length ∧ Pv i σ H, ⟨xs.length, by simp, Nat.zero_le _, h0⟩, ?_⟩
  rintro i m σ H ⟨rfl, hi, p⟩
  have q := hl i σ H hi p
  by_cases hlt : i < xs.length
  · refine .inr ⟨⟨xs, xs[i], q, by simp [hlt]⟩, Pv (i + 1), fun σ' H' p' => ⟨xs.length - (i + 1), by omega, rfl, hlt, p'⟩, fun x H' y => ?_⟩
    obtain ⟨e, y⟩ := y
    subst e
    exact hs i x σ _ (y xs q) p
  · have e : i = xs.length := by omega
    subst e
    exact .inl ⟨⟨xs, q, Nat.le_refl _⟩, hd σ H p⟩
theorem for_range {lo : Int} {n : Nat} {g : TG} {tb : TS} {D : Ends} {σ : St} {H : Hp} (Pv : Nat → St → Hp → Prop) (h0 : Pv 0 σ H)
    (hs : ∀ i σ H, i < n → Pv i σ H → g (.int (lo + i)) σ H fun σ2 H2 => tb { D with nx := Pv (i + 1), ct := Pv (i + 1), bk := D.nx } σ2 H2) (hd : ∀ σ H, Pv n σ H → D.nx σ H) :
    ∃ W : Nat → Nat → St → Hp → Prop, (∃ m, W 0 m σ H) ∧ ∀ i m σ H, W i m σ H →
      ((Itr lo n).stop i H ∧ D.nx σ H) ∨ ((Itr lo n).go i H ∧ ∃ N : St → Hp → Prop, (∀ σ' H', N σ' H' → ∃ m', m' < m ∧ W (i + 1) m' σ' H') ∧ ∀ x H', (Itr lo n).yld i H x H' → g x σ H' fun σ2 H2 => tb { D with nx := N, ct := N, bk := D.nx } σ2 H2) := by
  refine ⟨fun i m σ H => m = n - i ∧ i ≤ n ∧ Pv i σ H, ⟨n, by simp, Nat.zero_le _, h0⟩, ?_⟩
  rintro i m σ H ⟨rfl, hi, p⟩
  by_cases hlt : i < n
  · refine .inr ⟨hlt, Pv (i + 1), fun σ' H' p' => ⟨n - (i + 1), by omega, rfl, hlt, p'⟩, fun x H' y => ?_⟩
    obtain ⟨e, y⟩ := y
    subst e y
    exact hs i σ _ hlt p
  · have e : i = n := by omega
    subst e
    exact .inl ⟨Nat.le_refl _, hd σ H p⟩
end L2

namespace L2
open PySem PySem.Spec PyProof.Rows

abbrev R2 := V → V → Hp → VK → Prop
/-- a two-place operation on values: f is binaryOp op, inplaceOp op or compareOp op -/
def OpR (X : Cx) (f : Value → Value → Sem Value) (r : R2) : Prop :=
  ∀ (pins : List (Addr × Obj)) (s : Shared) (σ : St) (H : Hp) (x y : V) (v u : Value) (Q : VK), Inv X pins σ H s → RelV x v → RelV y u → r x y H Q →
    wpAny (model X.prog X.w) X.A (f v u) (EP X pins σ Q) X.xe s
/-- a one-place operation -/
def UnR (X : Cx) (f : Value → Sem Value) (r : V → Hp → VK → Prop) : Prop :=
  ∀ (pins : List (Addr × Obj)) (s : Shared) (σ : St) (H : Hp) (x : V) (v : Value) (Q : VK), Inv X pins σ H s → RelV x v → r x H Q →
    wpAny (model X.prog X.w) X.A (f v) (EP X pins σ Q) X.xe s
/-- a call of a value that is known (a builtin, a type) with values -/
def CallR (X : Cx) (f : Value) (r : List V → Hp → VK → Prop) : Prop :=
  ∀ (pins : List (Addr × Obj)) (s : Shared) (σ : St) (H : Hp) (xs : List V) (us : List Value) (Q : VK), Inv X pins σ H s → Vals xs us → r xs H Q →
    wpAny (model X.prog X.w) X.A (call f us) (EP X pins σ Q) X.xe s
def tOp (r : R2) (ta tb : TE) : TE := fun σ H Q => ta σ H fun x H1 => tb σ H1 fun y H2 => r x y H2 Q
def tUn (r : V → Hp → VK → Prop) (ta : TE) : TE := fun σ H Q => ta σ H fun x H1 => r x H1 Q
/-- ints in, under C, and a value out -/
def rI (C : Int → Int → Prop) (g : Int → Int → V) : R2 := fun x y H Q => ∃ i j, x = .int i ∧ y = .int j ∧ C i j ∧ Q (g i j) H
def rI0 (g : Int → Int → V) : R2 := fun x y H Q => ∃ i j, x = .int i ∧ y = .int j ∧ Q (g i j) H
def rU (g : Int → V) : V → Hp → VK → Prop := fun x H Q => ∃ i, x = .int i ∧ Q (g i) H

section
variable {X : Cx} {a b c : Expr} {ta tb tc : TE} {pos : Pos}

theorem binT (ha : PE X a ta) (hb : PE X b tb) {pins : List (Addr × Obj)} {s : Shared} {σ : St} {H : Hp} {R : V → V → Hp → Prop} (I : Inv X pins σ H s)
    (h : ta σ H fun x H1 => tb σ H1 fun y H2 => R x y H2) {Q : Value → Shared → Prop} {f : Value → Value → Sem Value}
    (hf : ∀ v u s2 x y H2, Inv X pins σ H2 s2 → RelV x v → RelV y u → R x y H2 → wpAny (model X.prog X.w) X.A (f v u) Q X.xe s2) :
    wpAny (model X.prog X.w) X.A (eval a X.env) (fun v s₁ => wpAny (model X.prog X.w) X.A (eval b X.env) (fun u s₂ => wpAny (model X.prog X.w) X.A (f v u) Q X.xe s₂) X.xe s₁) X.xe s := by
  refine thn (ha pins s σ H _ I h) fun v s1 ⟨x, H1, I1, r1, q1⟩ => ?_
  refine thn (hb pins s1 σ H1 _ I1 q1) fun u s2 ⟨y, H2, I2, r2, q2⟩ => ?_
  exact hf v u s2 x y H2 I2 r1 r2 q2

theorem pe_op {op : Operator} {r : R2} (ho : OpR X (binaryOp op) r) (ha : PE X a ta) (hb : PE X b tb) : PE X (.BinOp a op b pos) (tOp r ta tb) := by
  intro pins s σ H Q I h
  exact wpAny_BinOp (binT ha hb I h fun v u s2 x y H2 I2 rx ry q => ho pins s2 σ H2 x y v u Q I2 rx ry q)
theorem pe_un {op : UnaryOp} {r : V → Hp → VK → Prop} (ho : UnR X (unaryOp op) r) (ha : PE X a ta) : PE X (.UnaryOp op a pos) (tUn r ta) := by
  intro pins s σ H Q I h
  exact UnaryOp_ (thn (ha pins s σ H _ I h) fun v s1 ⟨x, H1, I1, r1, q1⟩ => ho pins s1 σ H1 x v Q I1 r1 q1)
/-! ### ints -/
theorem opI {f : Value → Value → Sem Value} {C : Int → Int → Prop} {g : Int → Int → Int}
    (rule : ∀ (i j : Int) (t u : Tok) (s : Shared) (Q : Value → Shared → Prop) (E : Value → Shared → Prop), C i j → Q (.int (g i j) s.toks) { s with toks := s.toks + 1 } → wpAny (model X.prog X.w) X.A (f (.int i t) (.int j u)) Q E s) :
    OpR X f (rI C fun i j => .int (g i j)) := by
  intro pins s σ H x y v u Q I rx ry h
  obtain ⟨i, j, rfl, rfl, hc, q⟩ := h
  obtain ⟨t, rfl⟩ := rx
  obtain ⟨t', rfl⟩ := ry
  exact rule i j t t' s _ _ hc ⟨.int (g i j), H, I.tok _, ⟨_, rfl⟩, q⟩
theorem opI0 {f : Value → Value → Sem Value} {g : Int → Int → Int}
    (rule : ∀ (i j : Int) (t u : Tok) (s : Shared) (Q : Value → Shared → Prop) (E : Value → Shared → Prop), Q (.int (g i j) s.toks) { s with toks := s.toks + 1 } → wpAny (model X.prog X.w) X.A (f (.int i t) (.int j u)) Q E s) :
    OpR X f (rI0 fun i j => .int (g i j)) := by
  intro pins s σ H x y v u Q I rx ry h
  obtain ⟨i, j, rfl, rfl, q⟩ := h
  obtain ⟨t, rfl⟩ := rx
  obtain ⟨t', rfl⟩ := ry
  exact rule i j t t' s _ _ ⟨.int (g i j), H, I.tok _, ⟨_, rfl⟩, q⟩
theorem opB0 {f : Value → Value → Sem Value} {g : Int → Int → Bool}
    (rule : ∀ (i j : Int) (t u : Tok) (s : Shared) (Q : Value → Shared → Prop) (E : Value → Shared → Prop), Q (.bool (g i j)) s → wpAny (model X.prog X.w) X.A (f (.int i t) (.int j u)) Q E s) :
    OpR X f (rI0 fun i j => .bl (g i j)) := by
  intro pins s σ H x y v u Q I rx ry h
  obtain ⟨i, j, rfl, rfl, q⟩ := h
  obtain ⟨t, rfl⟩ := rx
  obtain ⟨t', rfl⟩ := ry
  exact rule i j t t' s _ _ ⟨.bl (g i j), H, I, rfl, q⟩

def CDiv (i j : Int) : Prop := 0 < j ∧ j < 1073741824
def CPow (i j : Int) : Prop := 0 ≤ j ∧ j ≤ 1000000 ∧ i.natAbs < 2 ^ 64
def CMul (i j : Int) : Prop := (-(2 ^ 64) < i ∧ i < 2 ^ 64) ∨ (-(2 ^ 64) < j ∧ j < 2 ^ 64)
theorem CMul.ok {i j : Int} (h : CMul i j) : IntMulOk i j := by
  rcases h with ⟨h1, h2⟩ | ⟨h1, h2⟩
  · exact .of_left (intBits_le_64 h1 h2)
  · exact .of_right (intBits_le_64 h1 h2)
theorem two_pow_nn (k : Nat) : (0 : Int) ≤ 2 ^ k := by
  rw [two_pow_cast]
  exact Int.natCast_nonneg _

theorem op_add : OpR X (binaryOp .Add) (rI0 fun i j => .int (i + j)) := opI0 fun _ _ _ _ _ _ _ q => add_int q
theorem op_sub : OpR X (binaryOp .Sub) (rI0 fun i j => .int (i - j)) := opI0 fun _ _ _ _ _ _ _ q => sub_int q
theorem op_mul : OpR X (binaryOp .Mult) (rI CMul fun i j => .int (i * j)) := opI fun _ _ _ _ _ _ _ hc q => mul_int q hc.ok
/-- // by a positive divisor -/
theorem op_fdiv : OpR X (binaryOp .FloorDiv) (rI CDiv fun i j => .int (i / j)) := opI fun i j _ _ _ _ _ hc q => by
  have h1 : (0 : Int) < j := hc.1
  have h2 : j < 1073741824 := hc.2
  exact floordiv_int (by omega) (by rw [Int.fdiv_eq_ediv_of_nonneg i (by omega)]; exact q) (.inl (PyProof.noPylong_small (by omega)))
/-- % by a positive divisor of any size -/
theorem op_mod : OpR X (binaryOp .Mod) (rI (fun _ j => 0 < j) fun i j => .int (i % j)) := opI fun i j _ _ _ _ _ hc q => by
  have h1 : (0 : Int) < j := hc
  exact mod_int' (by omega) (by rw [Int.fmod_eq_emod_of_nonneg i (by omega)]; exact q)
theorem op_pow : OpR X (binaryOp .Pow) (rI CPow fun i j => .int (i ^ j.toNat)) := opI fun _ _ _ _ _ _ _ hc q => pow_int_small hc.1 hc.2.1 hc.2.2 q
theorem op_shr : OpR X (binaryOp .RShift) (rI (fun _ j => 0 ≤ j) fun i j => .int (i / 2 ^ j.toNat)) := opI fun i j _ _ _ _ _ hc q =>
  rshift_int hc (by rw [Int.fdiv_eq_ediv_of_nonneg i (two_pow_nn _)]; exact q)
theorem unI {f : Value → Sem Value} {g : Int → Int}
    (rule : ∀ (i : Int) (t : Tok) (s : Shared) (Q : Value → Shared → Prop) (E : Value → Shared → Prop), Q (.int (g i) s.toks) { s with toks := s.toks + 1 } → wpAny (model X.prog X.w) X.A (f (.int i t)) Q E s) :
    UnR X f (rU fun i => .int (g i)) := by
  intro pins s σ H x v Q I rx h
  obtain ⟨i, rfl, q⟩ := h
  obtain ⟨t, rfl⟩ := rx
  exact rule i t s _ _ ⟨.int (g i), H, I.tok _, ⟨_, rfl⟩, q⟩
theorem un_neg : UnR X (unaryOp .USub) (rU fun i => .int (-i)) := unI fun _ _ _ _ _ q => neg_int q
/-! ### bools among ints: n += (a < b) -/
end

/-! ### comparisons -/
/-- the scalars that == tells apart as data does -/
def scal : V → V → Bool
  | .non, .non => true | .non, .int _ => true | .int _, .non => true | .non, .bl _ => true | .bl _, .non => true | .non, .str _ => true | .str _, .non => true
  | .int _, .int _ => true | .bl _, .bl _ => true | .str _, .str _ => true | .byt _, .byt _ => true
  | .int _, .str _ => true | .str _, .int _ => true | .bl _, .str _ => true | .str _, .bl _ => true
  | _, _ => false
def rEq : R2 := fun x y H Q => scal x y = true ∧ Q (.bl (decide (x = y))) H
def rNe : R2 := fun x y H Q => scal x y = true ∧ Q (.bl (!decide (x = y))) H

theorem dec_int {i j : Int} : decide (V.int i = V.int j) = (i == j) := by
  rw [Bool.eq_iff_iff]
  simp
theorem dec_bl {i j : Bool} : decide (V.bl i = V.bl j) = (i == j) := by
  rw [Bool.eq_iff_iff]
  simp
theorem dec_str {i j : Str} : decide (V.str i = V.str j) = (i == j) := by
  rw [Bool.eq_iff_iff]
  simp
theorem dec_byt {i j : Array UInt8} : decide (V.byt i = V.byt j) = (i.toList == j.toList) := by
  rw [Bool.eq_iff_iff]
  cases i
  cases j
  simp

section
variable {X : Cx} {a b c : Expr} {ta tb tc : TE} {pos : Pos}
theorem fin_bl {pins : List (Addr × Obj)} {σ : St} {H : Hp} {s : Shared} {Q : VK} {k k' : Bool} (I : Inv X pins σ H s) (q : Q (.bl k) H) (e : k = k') : EP X pins σ Q (.bool k') s := by
  subst e
  exact ⟨.bl k, H, I, rfl, q⟩
theorem op_eq : OpR X (compareOp .Eq) rEq := by
  intro pins s σ H x y v u Q I rx ry h
  obtain ⟨hs, q⟩ := h
  cases x with
  | non =>
    cases rx
    cases y with
    | non => cases ry; exact PySem.EqNone.eq_none_none (fin_bl I q (by simp))
    | bl j => cases ry; exact PySem.EqNone.eq_none_bool (fin_bl I q (by simp))
    | int j => obtain ⟨t', rfl⟩ := ry; exact PySem.EqNone.eq_none_int (fin_bl I q (by simp))
    | str j => obtain ⟨t', rfl⟩ := ry; exact PySem.EqNone.eq_none_str (fin_bl I q (by simp))
    | _ => exact absurd (show false = true from hs) Bool.false_ne_true
  | bl i =>
    cases rx
    cases y with
    | non => cases ry; exact PySem.EqNone.eq_bool_none (fin_bl I q (by simp))
    | bl j => cases ry; exact eq_bool (fin_bl I q dec_bl)
    | str j => obtain ⟨t', rfl⟩ := ry; exact PySem.EqMixed.eq_bool_str (fin_bl I q (by simp))
    | _ => exact absurd (show false = true from hs) Bool.false_ne_true
  | int i =>
    obtain ⟨t, rfl⟩ := rx
    cases y with
    | non => cases ry; exact PySem.EqNone.eq_int_none (fin_bl I q (by simp))
    | int j => obtain ⟨t', rfl⟩ := ry; exact eq_int (fin_bl I q dec_int)
    | str j => obtain ⟨t', rfl⟩ := ry; exact PySem.EqMixed.eq_int_str (fin_bl I q (by simp))
    | _ => exact absurd (show false = true from hs) Bool.false_ne_true
  | str i =>
    obtain ⟨t, rfl⟩ := rx
    cases y with
    | non => cases ry; exact PySem.EqNone.eq_str_none (fin_bl I q (by simp))
    | bl j => cases ry; exact PySem.EqMixed.eq_str_bool (fin_bl I q (by simp))
    | int j => obtain ⟨t', rfl⟩ := ry; exact PySem.EqMixed.eq_str_int (fin_bl I q (by simp))
    | str j => obtain ⟨t', rfl⟩ := ry; exact eq_str (fin_bl I q dec_str)
    | _ => exact absurd (show false = true from hs) Bool.false_ne_true
  | byt i =>
    obtain ⟨t, rfl⟩ := rx
    cases y with
    | byt j => obtain ⟨t', rfl⟩ := ry; exact PySem.W.eq_bytes (fin_bl I q dec_byt)
    | _ => exact absurd (show false = true from hs) Bool.false_ne_true
  | _ => cases y <;> exact absurd (show false = true from hs) Bool.false_ne_true
theorem op_ne : OpR X (compareOp .NotEq) rNe := by
  intro pins s σ H x y v u Q I rx ry h
  obtain ⟨hs, q⟩ := h
  cases x with
  | non =>
    cases rx
    cases y with
    | non => cases ry; exact PySem.EqNone.ne_none_none (fin_bl I q (by simp))
    | bl j => cases ry; exact PySem.EqNone.ne_none_bool (fin_bl I q (by simp))
    | int j => obtain ⟨t', rfl⟩ := ry; exact PySem.EqNone.ne_none_int (fin_bl I q (by simp))
    | str j => obtain ⟨t', rfl⟩ := ry; exact PySem.EqNone.ne_none_str (fin_bl I q (by simp))
    | _ => exact absurd (show false = true from hs) Bool.false_ne_true
  | bl i =>
    cases rx
    cases y with
    | non => cases ry; exact PySem.EqNone.ne_bool_none (fin_bl I q (by simp))
    | bl j => cases ry; exact ne_bool (fin_bl I q (congrArg not dec_bl))
    | str j => obtain ⟨t', rfl⟩ := ry; exact PySem.EqMixed.ne_bool_str (fin_bl I q (by simp))
    | _ => exact absurd (show false = true from hs) Bool.false_ne_true
  | int i =>
    obtain ⟨t, rfl⟩ := rx
    cases y with
    | non => cases ry; exact PySem.EqNone.ne_int_none (fin_bl I q (by simp))
    | int j => obtain ⟨t', rfl⟩ := ry; exact ne_int (fin_bl I q (congrArg not dec_int))
    | str j => obtain ⟨t', rfl⟩ := ry; exact PySem.EqMixed.ne_int_str (fin_bl I q (by simp))
    | _ => exact absurd (show false = true from hs) Bool.false_ne_true
  | str i =>
    obtain ⟨t, rfl⟩ := rx
    cases y with
    | non => cases ry; exact PySem.EqNone.ne_str_none (fin_bl I q (by simp))
    | bl j => cases ry; exact PySem.EqMixed.ne_str_bool (fin_bl I q (by simp))
    | int j => obtain ⟨t', rfl⟩ := ry; exact PySem.EqMixed.ne_str_int (fin_bl I q (by simp))
    | str j => obtain ⟨t', rfl⟩ := ry; exact ne_str (fin_bl I q (congrArg not dec_str))
    | _ => exact absurd (show false = true from hs) Bool.false_ne_true
  | byt i =>
    obtain ⟨t, rfl⟩ := rx
    cases y with
    | byt j => obtain ⟨t', rfl⟩ := ry; exact PySem.W.ne_bytes (fin_bl I q (congrArg not dec_byt))
    | _ => exact absurd (show false = true from hs) Bool.false_ne_true
  | _ => cases y <;> exact absurd (show false = true from hs) Bool.false_ne_true

theorem op_lt : OpR X (compareOp .Lt) (rI0 fun i j => .bl (decide (i < j))) := opB0 fun _ _ _ _ _ _ _ q => lt_int q
theorem op_le : OpR X (compareOp .LtE) (rI0 fun i j => .bl (decide (i ≤ j))) := opB0 fun _ _ _ _ _ _ _ q => le_int q
theorem op_lt_str : OpR X (compareOp .Lt) (fun x y H Q => ∃ i j, x = .str i ∧ y = .str j ∧ Q (.bl (decide (i.cps.toList < j.cps.toList))) H) := by
  intro pins s σ H x y v u Q I rx ry h
  obtain ⟨i, j, rfl, rfl, q⟩ := h
  obtain ⟨t, rfl⟩ := rx
  obtain ⟨t', rfl⟩ := ry
  exact lt_str (fin_bl I q rfl)
/-- two rules for one operation: by cases -/
theorem OpR.or {f : Value → Value → Sem Value} {r r' : R2} (h : OpR X f r) (h' : OpR X f r') : OpR X f (fun x y H Q => r x y H Q ∨ r' x y H Q) := by
  intro pins s σ H x y v u Q I rx ry q
  rcases q with q | q
  · exact h pins s σ H x y v u Q I rx ry q
  · exact h' pins s σ H x y v u Q I rx ry q

theorem nomark (b : Expr) {op : CmpOp} (h : op ≠ .In := by decide) (h2 : op ≠ .NotIn := by decide) : behindInMarks op b = false := by
  have e1 : (op == CmpOp.In) = false := by cases op <;> first | rfl | exact absurd rfl h
  have e2 : (op == CmpOp.NotIn) = false := by cases op <;> first | rfl | exact absurd rfl h2
  cases b <;> simp [behindInMarks, e1, e2]
/-- a comparison as a value; hm: nomark b, or (for in, not in) by with_unfolding_all rfl -/
theorem pe_cmpR {op : CmpOp} {r : R2} (ho : OpR X (compareOp op) r) (ha : PE X a ta) (hb : PE X b tb) (hm : behindInMarks op b = false) : PE X (.Compare a [op] [b] pos) (tOp r ta tb) := by
  intro pins s σ H Q I h
  exact wpAny_Compare1 (binT ha hb I h fun v u s2 x y H2 I2 rx ry q => ho pins s2 σ H2 x y v u Q I2 rx ry q) hm
/-- a reading of a value as a test -/
def tTest (t : TE) : TT := fun σ H Q => t σ H fun x H' => ∃ k, x = .bl k ∧ Q k H'
theorem pt_cmpR {op : CmpOp} {r : R2} (ho : OpR X (compareOp op) r) (ha : PE X a ta) (hb : PE X b tb) (hm : behindInMarks op b = false) : PT X (.Compare a [op] [b] pos) (tTest (tOp r ta tb)) := by
  intro pins s σ H Q I h
  refine wpAny_isTrue_Compare1 (thn (ha pins s σ H _ I h) fun v s1 ⟨x, H1, I1, r1, q1⟩ => thn (hb pins s1 σ H1 _ I1 q1) fun u s2 ⟨y, H2, I2, r2, q2⟩ =>
    thn (ho pins s2 σ H2 x y v u _ I2 r1 r2 q2) fun c s3 ⟨z, H3, I3, r3, k, e, q3⟩ => ?_) hm
  subst e
  cases r3
  exact wpAny_truthy_bool ⟨H3, I3, q3⟩
/-- a op1 b op2 c -/
def tChain (r r' : R2) (ta tb tc : TE) : TE := fun σ H Q => ta σ H fun x H1 => tb σ H1 fun y H2 => r x y H2 fun z H3 => ∃ k, z = .bl k ∧
  (if k = true then tc σ H3 fun w' H4 => r' y w' H4 Q else Q (.bl false) H3)
theorem pe_chain {op op' : CmpOp} {r r' : R2} (ho : OpR X (compareOp op) r) (ho' : OpR X (compareOp op') r') (ha : PE X a ta) (hb : PE X b tb) (hc : PE X c tc)
    (hm : lastMarks [op, op'] [b, c] = false := by with_unfolding_all rfl) : PE X (.Compare a [op, op'] [b, c] pos) (tChain r r' ta tb tc) := by
  intro pins s σ H Q I h
  refine Compare_chain (thn (ha pins s σ H _ I h) fun v s1 ⟨x, H1, I1, r1, q1⟩ => chain_link (thn (hb pins s1 σ H1 _ I1 q1) fun u s2 ⟨y, H2, I2, r2, q2⟩ =>
    thn (ho pins s2 σ H2 x y v u _ I2 r1 r2 q2) fun d s3 ⟨z, H3, I3, r3, k, e, q3⟩ => ?_)) hm
  subst e
  cases r3
  refine wpAny_truthy_bool ?_
  cases k with
  | false => exact ite_ff ⟨.bl false, H3, I3, rfl, q3⟩
  | true => exact ite_tt (chain_last (thn (hc pins s3 σ H3 _ I3 q3) fun w' s4 ⟨z', H4, I4, r4, q4⟩ => ho' pins s4 σ H4 y z' u w' Q I4 r2 r4 q4))
theorem pt_chain {op op' : CmpOp} {r r' : R2} (ho : OpR X (compareOp op) r) (ho' : OpR X (compareOp op') r') (ha : PE X a ta) (hb : PE X b tb) (hc : PE X c tc)
    (hm : lastMarks [op, op'] [b, c] = false := by with_unfolding_all rfl) : PT X (.Compare a [op, op'] [b, c] pos) (tTest (tChain r r' ta tb tc)) := by
  intro pins s σ H Q I h
  refine isTrue_chain (thn (ha pins s σ H _ I h) fun v s1 ⟨x, H1, I1, r1, q1⟩ => test_link (thn (hb pins s1 σ H1 _ I1 q1) fun u s2 ⟨y, H2, I2, r2, q2⟩ =>
    thn (ho pins s2 σ H2 x y v u _ I2 r1 r2 q2) fun d s3 ⟨z, H3, I3, r3, k, e, q3⟩ => ?_)) hm
  subst e
  cases r3
  refine wpAny_truthy_bool ?_
  cases k with
  | false =>
    obtain ⟨k', e', q'⟩ := q3
    cases e'
    exact ite_ff ⟨H3, I3, q'⟩
  | true =>
    refine ite_tt (test_last (thn (hc pins s3 σ H3 _ I3 q3) fun w' s4 ⟨z', H4, I4, r4, q4⟩ => thn (ho' pins s4 σ H4 y z' u w' _ I4 r2 r4 q4) fun d' s5 ⟨z2, H5, I5, r5, k2, e2, q5⟩ => ?_))
    subst e2
    cases r5
    exact wpAny_truthy_bool ⟨H5, I5, q5⟩

/-! ### truth -/
theorem line63 : (sizeLine : Nat) < 2 ^ 63 := by rw [sizeLine_eq]; decide
/-! ### strs and bytes -/
theorem op_add_str : OpR X (binaryOp .Add) (fun x y H Q => ∃ i j, x = .str i ∧ y = .str j ∧ i.length + j.length ≤ sizeLine ∧ Q (.str (i ++ j)) H) := by
  intro pins s σ H x y v u Q I rx ry h
  obtain ⟨i, j, rfl, rfl, hz, q⟩ := h
  obtain ⟨t, rfl⟩ := rx
  obtain ⟨t', rfl⟩ := ry
  exact add_str (fun t' tk => ⟨.str (i ++ j), H, I.tok _, ⟨_, rfl⟩, q⟩) hz
theorem iop_add_str : OpR X (inplaceOp .Add) (fun x y H Q => ∃ i j, x = .str i ∧ y = .str j ∧ i.length + j.length ≤ sizeLine ∧ Q (.str (i ++ j)) H) := by
  intro pins s σ H x y v u Q I rx ry h
  obtain ⟨i, j, rfl, rfl, hz, q⟩ := h
  obtain ⟨t, rfl⟩ := rx
  obtain ⟨t', rfl⟩ := ry
  exact iadd_str (fun t' tk => ⟨.str (i ++ j), H, I.tok _, ⟨_, rfl⟩, q⟩) hz
/-! ### scalar builtins, by CallR -/
theorem vals1 {x : V} {us : List Value} (r : Vals [x] us) : ∃ u, us = [u] ∧ RelV x u := by
  cases r with
  | cons r1 r2 => cases r2; exact ⟨_, rfl, r1⟩
theorem vals2 {x y : V} {us : List Value} (r : Vals [x, y] us) : ∃ u w', us = [u, w'] ∧ RelV x u ∧ RelV y w' := by
  cases r with
  | cons r1 r2 =>
    cases r2 with
    | cons r3 r4 => cases r4; exact ⟨_, _, rfl, r1, r3⟩
theorem call_max2 (hc : X.calm = true) : CallR X (.builtin "max") (fun xs H Q => ∃ i j, xs = [.int i, .int j] ∧ Q (.int (if j > i then j else i)) H) := by
  intro pins s σ H xs us Q I r h
  obtain ⟨i, j, rfl, q⟩ := h
  obtain ⟨u, w', rfl, ⟨t, rfl⟩, ⟨t', rfl⟩⟩ := vals2 r
  refine max_two_ints (I.ok.hd hc) fun h' tk k => ⟨_, H, I.kept k, ?_, q⟩
  by_cases hj : j > i
  · rw [if_pos hj, if_pos hj]; exact ⟨_, rfl⟩
  · rw [if_neg hj, if_neg hj]; exact ⟨_, rfl⟩
theorem call_min2 (hc : X.calm = true) : CallR X (.builtin "min") (fun xs H Q => ∃ i j, xs = [.int i, .int j] ∧ Q (.int (if j < i then j else i)) H) := by
  intro pins s σ H xs us Q I r h
  obtain ⟨i, j, rfl, q⟩ := h
  obtain ⟨u, w', rfl, ⟨t, rfl⟩, ⟨t', rfl⟩⟩ := vals2 r
  refine min_two_ints (I.ok.hd hc) fun h' tk k => ⟨_, H, I.kept k, ?_, q⟩
  by_cases hj : j < i
  · rw [if_pos hj, if_pos hj]; exact ⟨_, rfl⟩
  · rw [if_neg hj, if_neg hj]; exact ⟨_, rfl⟩
end
end L2

namespace L2
open PySem PySem.Spec PyProof.Rows

/-! ### an instance, its attributes a map -/
structure ObjM (h : Heap) (x dx C : Addr) (mA : Str → Option Value) : Prop where
  obj : h.get? x = some (PySem.W.instObj C dx)
  ns : h.Ns1 dx mA
  ne : dx ≠ x

theorem lookIn_ns {h : Heap} {dx : Addr} {mA : Str → Option Value} (n : h.Ns1 dx mA) : ∃ od, h.get? dx = some od ∧ ∀ name, PySem.W.lookIn name od = some (mA name) := by
  obtain ⟨o, es, ep, ho, hd, hk, _, hm⟩ := n
  refine ⟨o, ho, fun name => ?_⟩
  have e := hm name
  unfold nsFind findBy at e
  rw [← Array.find?_toList] at e
  unfold PySem.W.lookIn
  rw [hd]
  dsimp only
  split
  · rename_i y q
    rw [q] at e
    exact congrArg some e
  · rename_i q
    rw [q] at e
    have a : es.toList.any (·.refKey) = false := by
      rw [List.any_eq_false]
      intro y hy
      obtain ⟨z, t, hkey⟩ := hk y (Array.mem_toList_iff.mp hy)
      simp [DictEntry.refKey, hkey]
    have a' : ¬ es.toList.any (·.refKey) = true := by rw [a]; exact Bool.false_ne_true
    rw [if_neg a']
    exact congrArg some e

theorem ObjM.look {h : Heap} {x dx C : Addr} {mA : Str → Option Value} (I : ObjM h x dx C mA) : ∃ od, PySem.W.InstAt h x (PySem.W.instObj C dx) C (some od) ∧ ∀ name, PySem.W.lookIn name od = some (mA name) :=
  let ⟨od, ho, hl⟩ := lookIn_ns I.ns
  ⟨od, ⟨I.obj, rfl, rfl, ho⟩, hl⟩

section
variable {prog : Program} {w : World} {A : Around} {E : Value → Shared → Prop} {s : Shared} {K : PySem.W.Frag} {x dx C f : Addr} {mA : Str → Option Value} {name : Str} {v : Value}

theorem get_map {expr : Bool} {Q : Value → Shared → Prop} (X : K.In s.heap) (I : ObjM s.heap x dx C mA) (hg : PySem.W.plainGet K C name = true) (hh : PySem.W.hasDictIn K C = true)
    (ha : PySem.W.findIn K (.ref C) name = some none) (hv : mA name = some v) (hv' : PySem.W.handedIn v = true) (h : Q v { s with toks := s.toks + 1 }) :
    wpAny (model prog w) A (getAttr (.ref x) name expr) Q E s := by
  obtain ⟨od, J, hl⟩ := I.look
  exact PySem.W.get_value X J (PySem.W.plainGet_of hg).1 (PySem.W.findObj_own hh ha rfl (by rw [hl, hv])) hv' h

theorem get_meth {pl : Sem Bool} {Q : Value × List Value → Shared → Prop} (X : K.In s.heap) (I : ObjM s.heap x dx C mA) (hg : PySem.W.plainGet K C name = true)
    (hf : PySem.W.findIn K (.ref C) name = some (some (.ref f))) (ht : PySem.W.isFn K (.ref f) = true) (hv : mA name = none) (h : Q (.ref f, [.ref x]) s) :
    wpAny (model prog w) A (getMethod (.ref x) name pl) Q E s := by
  obtain ⟨od, J, hl⟩ := I.look
  exact PySem.W.method_fn X J (PySem.W.plainGet_of hg).1 (PySem.W.plainGet_of hg).2 hf (beq_iff_eq.mp ht) (by show (PySem.W.lookIn name od).map (·.isSome) = some false; rw [hl, hv]; rfl) h

theorem set_map {ns : List Str} {Q : Unit → Shared → Prop} (X : K.In s.heap) (I : ObjM s.heap x dx C mA)
    (hs : PySem.W.findIn K (.ref C) "__setattr__" = some (some (.builtin "object.__setattr__"))) (hp : PySem.W.plainOver K C = true) (ht : PySem.W.takerIn K C name = some none) (hh : PySem.W.hasDictIn K C = true)
    (hw : PySem.Within mA ns) (hsz : ns.length ≤ sizeLine)
    (h : ∀ h', ObjM h' x dx C (fun y => if y = name then some v else mA y) → Heap.SameBut dx s.heap h' → Q () { s with heap := h', toks := s.toks + 2 }) :
    wpAny (model prog w) A (setAttr (.ref x) name v) Q E s := by
  obtain ⟨od, J, hl⟩ := I.look
  refine PySem.W.set_plain X J hs (PySem.W.osa_open (s := { s with toks := s.toks + 1 }) (r := none) X J hp ht fun b => ?_)
  obtain ⟨cd, hc, hd'⟩ := PySem.W.any_some hh
  have hx : s.heap.get? x = some ⟨.ref C, some dx, .plain, #[]⟩ := I.obj
  refine wpAny_bind (wpAny_pure (wpAny_bind (wpAny_bind (wpAny_loadPart hx (wpAny_bind (PySem.W.Looks.here (s := { s with toks := s.toks + 1 }) (PySem.W.looks_clsIn X hc) ?_))))))
  rw [hd']
  refine wpAny_pure (a := some dx) (wpAny_bind (wpAny_pure (wpAny_bind ?_)))
  refine wpAny_nsSet1 (s := { s with toks := s.toks + 1 }) I.ns fun h' hn2 hs2 => ?_
  obtain ⟨oD, esD, epD, hoD, hdD, hcD⟩ := hn2.count (PySem.Within.cons name v hw)
  refine wpAny_bind (wpAny_lookBehind hoD (by rw [hdD]; exact pastItsLine_dict (Nat.le_trans hcD (by rw [List.length_cons]; omega))) ?_)
  exact wpAny_pure (h _ ⟨(hs2.2 _ (Ne.symm I.ne)).trans I.obj, hn2, I.ne⟩ hs2)

/-- C(..): the dict at the heap's end, the instance behind it; then its __init__ -/
theorem make_map {R : Result → Shared → Prop} {vs : List Value} {kw : List (Str × Value)} (X : K.In s.heap) (hm : PySem.W.makesIn K C = true)
    (hi : PySem.W.findIn K (.ref C) "__init__" = some (some (.ref f))) (hf : PySem.W.typeIn K (.ref f) = some (.type "function"))
    (h : codeAny (model prog w) (A.under (.builtin "type.__call__" ⟨.ref C :: vs, kw⟩)) (.call (.ref f) ⟨.ref (s.heap.objs.size + 1) :: vs, kw⟩) (PySem.W.InitBack (s.heap.objs.size + 1) R)
      { s with heap := (s.heap.push PySem.W.emptyDict).push (PySem.W.instObj C s.heap.objs.size) }) :
    codeAny (model prog w) A (.call (.ref C) ⟨vs, kw⟩) R s := by
  obtain ⟨hh, g, d, t, os⟩ := s
  exact PySem.W.make_core (PySem.W.makes_of X hm) (PySem.W.looks_findIn X hi) (fun self => PySem.W.bind_fn X self hf) (.inl rfl) h
end

/-! ### the attributes as a list of pairs -/
def putF (f : Str) (v : V) : List (Str × V) → List (Str × V)
  | [] => [(f, v)]
  | (g, x) :: r => if g = f then (g, v) :: r else (g, x) :: putF f v r
theorem lookup_putF (f g : Str) (v : V) : ∀ fs : List (Str × V), (putF f v fs).lookup g = if g = f then some v else fs.lookup g
  | [] => by
    show List.lookup g [(f, v)] = _
    by_cases h : g = f
    · have hb : (g == f) = true := beq_iff_eq.mpr h
      simp only [List.lookup, hb, if_pos h]
    · have hb : (g == f) = false := beq_eq_false_iff_ne.mpr h
      simp only [List.lookup, hb, if_neg h]
  | (k, x) :: r => by
    have ih := lookup_putF f g v r
    rw [show putF f v ((k, x) :: r) = (if k = f then (k, v) :: r else (k, x) :: putF f v r) from rfl]
    by_cases hk : k = f
    · rw [if_pos hk]
      by_cases h : g = k
      · have hb : (g == k) = true := beq_iff_eq.mpr h
        simp only [List.lookup, hb, if_pos (h.trans hk)]
      · have hb : (g == k) = false := beq_eq_false_iff_ne.mpr h
        simp only [List.lookup, hb, if_neg (fun e : g = f => h (e.trans hk.symm))]
    · rw [if_neg hk]
      by_cases h : g = k
      · have hb : (g == k) = true := beq_iff_eq.mpr h
        simp only [List.lookup, hb, if_neg (fun e : g = f => hk (h.symm.trans e))]
      · have hb : (g == k) = false := beq_eq_false_iff_ne.mpr h
        simp only [List.lookup, hb]
        exact ih
theorem keys_putF (f : Str) (v : V) : ∀ fs : List (Str × V), f ∈ (putF f v fs).map (·.1) ∧ ∀ g, g ∈ fs.map (·.1) → g ∈ (putF f v fs).map (·.1)
  | [] => ⟨by simp [putF], fun g h => by simp at h⟩
  | (k, x) :: r => by
    obtain ⟨i1, i2⟩ := keys_putF f v r
    rw [show putF f v ((k, x) :: r) = (if k = f then (k, v) :: r else (k, x) :: putF f v r) from rfl]
    by_cases hk : k = f
    · rw [if_pos hk]
      subst hk
      exact ⟨by simp, fun g h => by simpa using h⟩
    · rw [if_neg hk]
      refine ⟨?_, fun g h => ?_⟩
      · rw [List.map_cons]
        exact List.mem_cons_of_mem _ i1
      · rw [List.map_cons] at h ⊢
        rcases List.mem_cons.mp h with e | e
        · exact List.mem_cons.mpr (.inl e)
        · exact List.mem_cons_of_mem _ (i2 g e)
theorem length_putF (f : Str) (v : V) : ∀ fs : List (Str × V), (putF f v fs).length ≤ fs.length + 1
  | [] => by simp [putF]
  | (k, x) :: r => by
    have ih := length_putF f v r
    rw [show putF f v ((k, x) :: r) = (if k = f then (k, v) :: r else (k, x) :: putF f v r) from rfl]
    by_cases hk : k = f
    · rw [if_pos hk, List.length_cons, List.length_cons]; omega
    · rw [if_neg hk, List.length_cons, List.length_cons]; omega

theorem RelO.some_of {v : V} {o : Option Value} (r : RelO (some v) o) : ∃ u, o = some u ∧ RelV v u := by
  cases o with
  | none => exact (show False from r).elim
  | some u => exact ⟨u, rfl, r⟩
theorem RelO.none_of {o : Option Value} (r : RelO none o) : o = none := by
  cases o with
  | none => rfl
  | some u => exact (show False from r).elim
theorem handed_of {v : V} {u : Value} (r : RelV v u) : PySem.W.handedIn u = true := by
  cases v with
  | non => cases (show u = Value.none from r); rfl
  | bl b => cases (show u = Value.bool b from r); rfl
  | int i => obtain ⟨t, e⟩ := (show ∃ t, u = Value.int i t from r); cases e; rfl
  | str x => obtain ⟨t, e⟩ := (show ∃ t, u = Value.str x t from r); cases e; rfl
  | byt b => obtain ⟨t, e⟩ := (show ∃ t, u = Value.bytes b t from r); cases e; rfl
  | flt b => obtain ⟨t, e⟩ := (show ∃ t, u = Value.float b t from r); cases e; rfl
  | ref a => cases (show u = Value.ref a from r); rfl
  | ty n => cases (show u = Value.type n from r); rfl

section
variable {P : Program} {w : World} {H H' : Hp} {h h' : Heap} {a C dx : Addr} {fs fs' : List (Str × V)}
theorem ins_get (hok : HOk P w H h) (e : H a = some (.ins C dx fs)) : ∃ mA, ObjM h a dx C mA ∧ (∀ f, RelO (fs.lookup f) (mA f)) ∧ PySem.Within mA (fs.map (·.1)) ∧ fs.length ≤ 1000 ∧ H dx = some (.own a) := by
  obtain ⟨d, z, ne, ob, mA, n, r, q⟩ := (show ObjOk P w H h a (.ins C dx fs) from hok a _ e)
  exact ⟨mA, ⟨ob, n, ne⟩, r, q, z, d⟩
end

/-! ### what of the text a class must have -/
structure Cls (K : PySem.W.Frag) (C : Addr) : Prop where
  pg : PySem.W.plainGet K C Str.empty = true
  hd : PySem.W.hasDictIn K C = true
  po : PySem.W.plainOver K C = true
  sa : PySem.W.findIn K (.ref C) "__setattr__" = some (some (.builtin "object.__setattr__"))
theorem Cls.get {K : PySem.W.Frag} {C : Addr} (c : Cls K C) (f : Str) : PySem.W.plainGet K C f = true := c.pg
/-- no class of it has the name -/
def NoAttr (K : PySem.W.Frag) (C : Addr) (f : Str) : Prop := PySem.W.findIn K (.ref C) f = some none
theorem NoAttr.taker {K : PySem.W.Frag} {C : Addr} {f : Str} (n : NoAttr K C f) : PySem.W.takerIn K C f = some none := by
  unfold PySem.W.takerIn
  rw [show PySem.W.findIn K (.ref C) f = some none from n]
  rfl
/-- a constant of the class -/
structure Con (K : PySem.W.Frag) (C : Addr) (f : Str) (v : V) (u : Value) : Prop where
  at_ : PySem.W.findIn K (.ref C) f = some (some u)
  rel : RelV v u
  get : PySem.W.specialIn K u "__get__" = some none
  cp : PySem.W.copiedNames.contains f = false
/-- a method: a plain def of the class or of one above it -/
structure Meth (K : PySem.W.Frag) (C : Addr) (m : Str) (f : Addr) : Prop where
  at_ : PySem.W.findIn K (.ref C) m = some (some (.ref f))
  fn : PySem.W.isFn K (.ref f) = true
  kp : PySem.W.keepIn K (.ref f) = true

section
variable {X : Cx} {pins : List (Addr × Obj)} {σ : St} {H : Hp} {s : Shared} {a C dx : Addr} {fs : List (Str × V)} {f : Str} {v : V} {A : Around} {E : Value → Shared → Prop}

theorem getattr_ok {b : Bool} {Q : Value → Shared → Prop} (I : Inv X pins σ H s) (e : H a = some (.ins C dx fs)) (c : Cls X.K C) (n : NoAttr X.K C f) (l : fs.lookup f = some v)
    (h : ∀ u s', Inv X pins σ H s' → RelV v u → Q u s') : wpAny (model X.prog X.w) A (getAttr (.ref a) f b) Q E s := by
  obtain ⟨mA, O, r, _, _, _⟩ := ins_get I.hok e
  obtain ⟨u, hu, ru⟩ := RelO.some_of (v := v) (o := mA f) (by rw [← l]; exact r f)
  exact get_map I.kIn O (c.get f) c.hd n hu (handed_of ru) (h u _ (I.tok _) ru)

theorem getmeth_ok {m : Str} {g : Addr} {pl : Sem Bool} {Q : Value × List Value → Shared → Prop} (I : Inv X pins σ H s) (e : H a = some (.ins C dx fs)) (c : Cls X.K C) (k : Meth X.K C m g) (l : fs.lookup m = none)
    (h : Q (.ref g, [.ref a]) s) : wpAny (model X.prog X.w) A (getMethod (.ref a) m pl) Q E s := by
  obtain ⟨mA, O, r, _, _, _⟩ := ins_get I.hok e
  have hn : mA m = none := RelO.none_of (by rw [← l]; exact r m)
  exact get_meth I.kIn O (c.get m) k.at_ k.fn hn h

theorem setattr_ok {y : V} {u : Value} {Q : Unit → Shared → Prop} (I : Inv X pins σ H s) (e : H a = some (.ins C dx fs)) (c : Cls X.K C) (n : NoAttr X.K C f) (hl : fs.length < 1000) (ry : RelV y u)
    (h : ∀ s', Inv X pins σ (upd H a (.ins C dx (putF f y fs))) s' → Q () s') : wpAny (model X.prog X.w) A (setAttr (.ref a) f u) Q E s := by
  obtain ⟨mA, O, r, wi, _, ho⟩ := ins_get I.hok e
  have hz : (fs.map (·.1)).length ≤ sizeLine := by rw [List.length_map, sizeLine_eq]; omega
  refine set_map I.kIn O c.sa c.po n.taker c.hd wi hz fun h' O' sb => h _ ?_
  have hd : ∃ o, h'.get? dx = some o := let ⟨o, _, _, e', _⟩ := O'.ns; ⟨o, e'⟩
  refine I.write (x := a) (e := dx) (by rw [e]; exact True.intro) (.inr ho) (fun b q hb z => (sb.2 b hb).trans z) hd ?_
  refine ⟨by rw [upd_ne O.ne]; exact ho, ?_, O.ne, O'.obj, _, O'.ns, fun g => ?_, fun g hg => ?_⟩
  · have := length_putF f y fs; omega
  · show RelO ((putF f y fs).lookup g) (if g = f then some u else mA g)
    rw [lookup_putF]
    by_cases q : g = f
    · rw [if_pos q, if_pos q]; exact ry
    · rw [if_neg q, if_neg q]; exact r g
  · by_cases q : g = f
    · rw [q]; exact (keys_putF f y fs).1
    · refine (keys_putF f y fs).2 g (wi g fun z => hg ?_)
      show (if g = f then some u else mA g) = none
      rw [if_neg q]; exact z

/-- a new instance, tracked, without attributes -/
theorem Inv.made (I : Inv X pins σ H s) : Inv X pins σ (upd (upd H s.heap.objs.size (.own (s.heap.objs.size + 1))) (s.heap.objs.size + 1) (.ins C s.heap.objs.size []))
    { s with heap := (s.heap.push PySem.W.emptyDict).push (PySem.W.instObj C s.heap.objs.size) } := by
  have e1 : (s.heap.push PySem.W.emptyDict).get? s.heap.objs.size = some PySem.W.emptyDict := Heap.get?_push_size s.heap rfl
  have e2 : ((s.heap.push PySem.W.emptyDict).push (PySem.W.instObj C s.heap.objs.size)).get? (s.heap.objs.size + 1) = some (PySem.W.instObj C s.heap.objs.size) := by
    have := Heap.get?_push_size (s.heap.push PySem.W.emptyDict) (o := PySem.W.instObj C s.heap.objs.size) rfl
    rwa [Heap.size_push] at this
  have e3 : (s.heap.push PySem.W.emptyDict).Ns s.heap.objs.size (fun _ => none) := ⟨PySem.W.emptyDict, #[], _, e1, rfl, (fun e he => absurd he (by simp)), fun _ => rfl⟩
  have I1 := I.laid (a := s.heap.objs.size) (o := .own (s.heap.objs.size + 1)) (h' := s.heap.push PySem.W.emptyDict) (t' := s.toks) (fun b u q => Heap.get?_push_of_some _ q) (Nat.le_refl _) ⟨_, e1⟩
  refine I1.laid (a := s.heap.objs.size + 1) (o := .ins C s.heap.objs.size []) (t' := s.toks) (fun b u q => Heap.get?_push_of_some _ q) (Nat.le_of_eq (Heap.size_push _ _)) ?_
  have ne : s.heap.objs.size ≠ s.heap.objs.size + 1 := Nat.ne_of_lt (Nat.lt_succ_self _)
  refine ⟨by rw [upd_ne ne, upd_same], Nat.zero_le _, ne, e2, fun _ => none, (Heap.Ns1.of_empty e3).at fun o q => Heap.get?_push_of_some _ q, fun _ => True.intro, fun y hy => absurd rfl hy⟩

/-- e.f where nothing but the object is asked: through attributeBase (super) and the last hold -/
theorem attr_of {prog : Program} {w : World} {env : Env} {e : Expr} {f : Str} {pos : Pos} {s : Shared} {Q : Value → Shared → Prop} (hb : attributeBase e f env (eval e env) = eval e env)
    (h : wpAny (model prog w) A (eval e env) (fun o s₁ => wpAny (model prog w) A (getAttr o f true) Q E s₁) E s) : wpAny (model prog w) A (eval (.Attribute e f pos) env) Q E s :=
  Attribute_any_ h (by rw [arm_eval_Attribute, hb])
end

/-! ### readings and rules -/
/-- e.f, an attribute of the instance -/
def tFld (K : PySem.W.Frag) (ta : TE) (f : Str) : TE := fun σ H Q => ta σ H fun x H1 => ∃ a C dx fs v, x = .ref a ∧ H1 a = some (.ins C dx fs) ∧ Cls K C ∧ NoAttr K C f ∧ fs.lookup f = some v ∧ Q v H1
/-- e.f = value -/
def sFld (K : PySem.W.Frag) (ta tv : TE) (f : Str) : TS := fun D σ H => tv σ H fun y H1 => ta σ H1 fun x H2 => ∃ a C dx fs, x = .ref a ∧ H2 a = some (.ins C dx fs) ∧ Cls K C ∧ NoAttr K C f ∧ fs.length < 1000 ∧
  D.nx σ (upd H2 a (.ins C dx (putF f y fs)))
section
variable {X : Cx} {o e value : Expr} {f : Str} {pos pos' tpos : Pos} {ta tv : TE}
theorem pe_fld (he : PE X e ta) (hb : attributeBase e f X.env (eval e X.env) = eval e X.env) : PE X (.Attribute e f pos) (tFld X.K ta f) := by
  intro pins s σ H Q I h
  refine attr_of hb (thn (he pins s σ H _ I h) fun u s1 ⟨x, H1, I1, rx, a, C, dx, fs, v, ex, ea, c, n, l, q⟩ => ?_)
  subst ex
  obtain rfl : u = Value.ref a := rx
  exact getattr_ok I1 ea c n l fun u' s2 I2 ru => ⟨v, H1, I2, ru, q⟩
theorem ps_fld (ha : PE X o ta) (hv : PE X value tv) (hs : swapsWith value (some (.Attribute o f pos')) pos.line X.env = pure false) : PS X (.Assign [.Attribute o f pos'] value pos) (sFld X.K ta tv f) := by
  intro pins s σ H D I h
  refine plainObj_wpAny_Assign_Attribute (thn (hv pins s σ H _ I h) fun u s1 ⟨y, H1, I1, ry, q⟩ => thn (ha pins s1 σ H1 _ I1 q) fun ov s2 ⟨x, H2, I2, rx, a, C, dx, fs, ex, ea, c, n, l, q2⟩ => ?_) hs
  subst ex
  obtain rfl : ov = Value.ref a := rx
  exact setattr_ok I2 ea c n l ry fun s3 I3 => ⟨σ, _, I3, q2⟩
end

/-! ### isinstance -/
section
variable {X : Cx} {pins : List (Addr × Obj)} {σ : St} {H : Hp} {s : Shared} {A : Around} {E : Value → Shared → Prop} {Q : Value → Shared → Prop} {c : Value} {b : Bool}
/-- the type of a value, as the fragment's deciders take it; for an instance its class -/
inductive TyOf (K : PySem.W.Frag) (H : Hp) : V → Value → Prop where
  | non : TyOf K H .non (.type "NoneType")
  | bl (x : Bool) : TyOf K H (.bl x) (.type "bool")
  | int (i : Int) : TyOf K H (.int i) (.type "int")
  | str (x : Str) : TyOf K H (.str x) (.type "str")
  | flt (x : UInt64) : TyOf K H (.flt x) (.type "float")
  | lst {a : Addr} {xs : List V} (e : H a = some (.lst xs)) : TyOf K H (.ref a) (.type "list")
  | frz {a : Addr} {o : Obj} {xs : List V} (e : H a = some (.frz o (.lst xs))) : TyOf K H (.ref a) (.type "list")
  | tup {a : Addr} {xs : List V} (e : H a = some (.tup xs)) : TyOf K H (.ref a) (.type "tuple")
  | dK {a : Addr} {kvs : List (Key × V)} (e : H a = some (.dK kvs)) : TyOf K H (.ref a) (.type "dict")
  | dT {a : Addr} {kvs : List (List Key × V)} (e : H a = some (.dT kvs)) : TyOf K H (.ref a) (.type "dict")
  | ins {a C dx : Addr} {fs : List (Str × V)} (e : H a = some (.ins C dx fs)) (cl : Cls K C) (ha : PySem.W.findIn K (.ref C) "__class__" = some (some (.builtin "object.__class__")))
      (hn : PySem.W.specialIn K (.builtin "object.__class__") "__get__" = some (some (.builtin "getset_descriptor.__get__"))) (htk : PySem.W.takesIn K (.builtin "object.__class__") = some true)
      (hm : PySem.W.mroIn K C (.type "object") = some true) : TyOf K H (.ref a) (.ref C)
/-- isinstance(x, c) for one class c, a built-in or an own one: kitOne's answer -/
theorem isinst_ok {x : V} {u t : Value} (I : Inv X pins σ H s) (rx : RelV x u) (ty : TyOf X.K H x t) (e : PySem.W.kitOne X.K t c = some b) (h : ∀ tk, Q (.bool b) { s with toks := tk }) :
    wpAny (model X.prog X.w) A (call (.builtin "isinstance") [u, c]) Q E s := by
  cases ty with
  | non => cases (show u = Value.none from rx); exact PySem.W.kia_one PySem.W.kitx_none I.kIn True.intro e (fun z => nomatch z) h
  | bl y => cases (show u = Value.bool y from rx); exact PySem.W.kia_one PySem.W.kitx_bool I.kIn True.intro e (fun z => nomatch z) h
  | int i => obtain ⟨t, q⟩ := (show ∃ t, u = Value.int i t from rx); cases q; exact PySem.W.kia_one PySem.W.kitx_int I.kIn True.intro e (fun z => nomatch z) h
  | str y => obtain ⟨t, q⟩ := (show ∃ t, u = Value.str y t from rx); cases q; exact PySem.W.kia_one PySem.W.kitx_str I.kIn True.intro e (fun z => nomatch z) h
  | flt y => obtain ⟨t, q⟩ := (show ∃ t, u = Value.float y t from rx); cases q; exact PySem.W.kia_one PySem.W.kitx_float I.kIn True.intro e (fun z => nomatch z) h
  | @lst a xs ea =>
    cases (show u = Value.ref a from rx)
    obtain ⟨_, _, n, _, h1⟩ := (show ObjOk X.prog X.w H s.heap a (.lst xs) from I.hok a _ ea)
    exact PySem.W.kia_one PySem.W.kitx_list I.kIn ⟨_, h1, rfl⟩ e (fun z => nomatch z) h
  | @frz a ob xs ea =>
    cases (show u = Value.ref a from rx)
    obtain ⟨_, _, _, n, _, h1⟩ := (show ObjOk X.prog X.w H s.heap a (.frz ob (.lst xs)) from I.hok a _ ea)
    exact PySem.W.kia_one PySem.W.kitx_list I.kIn ⟨_, h1, rfl⟩ e (fun z => nomatch z) h
  | @tup a xs ea =>
    cases (show u = Value.ref a from rx)
    obtain ⟨_, _, _, p⟩ := (show ObjOk X.prog X.w H s.heap a (.tup xs) from I.hok a _ ea)
    obtain ⟨o, h1, h2, _⟩ := p
    exact PySem.W.kia_one PySem.W.kitx_tuple I.kIn ⟨o, h1, h2⟩ e (fun z => nomatch z) h
  | @dK a kvs ea =>
    cases (show u = Value.ref a from rx)
    obtain ⟨_, _, vs, _, p⟩ := (show ObjOk X.prog X.w H s.heap a (.dK kvs) from I.hok a _ ea)
    obtain ⟨o, es, ep, h1, h2, _⟩ := p
    exact PySem.W.kia_one PySem.W.kitx_dict I.kIn ⟨o, h1, h2.1⟩ e (fun z => nomatch z) h
  | @dT a kvs ea =>
    cases (show u = Value.ref a from rx)
    obtain ⟨_, _, xs, _, o, es, ep, h1, h2, _⟩ := (show ObjOk X.prog X.w H s.heap a (.dT kvs) from I.hok a _ ea)
    exact PySem.W.kia_one PySem.W.kitx_dict I.kIn ⟨o, h1, h2.1⟩ e (fun z => nomatch z) h
  | @ins a C dx fs ea cl ha hn htk hm =>
    cases (show u = Value.ref a from rx)
    obtain ⟨mA, O, _⟩ := ins_get I.hok ea
    obtain ⟨od, J, _⟩ := O.look
    exact PySem.W.kia_one (PySem.W.kitx_own (cl.get _) cl.hd ha hn htk hm) I.kIn J e (fun z => nomatch z) h
end
end L2

namespace L2
open PySem PySem.Spec PyProof.Rows

/-! ### room -/
structure Room (k : Nat) (A : Around) : Prop where
  hd : A.handled = none
  dp : A.depth + 3 * k + 5 < recursionLimit
  un : A.units + 16 * k + 200 < cLine
theorem Room.mono {j k : Nat} {A : Around} (r : Room k A) (h : j ≤ k) : Room j A := ⟨r.hd, by have := r.dp; omega, by have := r.un; omega⟩
theorem Room.deeper {k : Nat} {A : Around} (r : Room (k + 1) A) (env : Env) : Room k (A.deeper env) :=
  ⟨r.hd, by have := r.dp; show A.depth + 1 + 3 * k + 5 < _; omega, by have := r.un; show A.units + 3 + 16 * k + 200 < _; omega⟩
theorem Room.in1 {k : Nat} {A : Around} (r : Room (k + 1) A) : Room k A.in1 :=
  ⟨r.hd, by have := r.dp; show A.depth + 3 * k + 5 < _; omega, by have := r.un; show A.units + 1 + 16 * k + 200 < _; omega⟩
theorem make_depth {A : Around} {C : Addr} {us : List Value} {kw : List (Str × Value)} : (A.under (.builtin "type.__call__" ⟨.ref C :: us, kw⟩)).depth = A.depth + 1 := by
  first | rfl | simp [Around.under, Code.weight, Code.isCreation, Code.isGuard, Code.isCaller, Code.frames, Code.isFrame, guardIds]
theorem make_units {A : Around} {C : Addr} {us : List Value} {kw : List (Str × Value)} : (A.under (.builtin "type.__call__" ⟨.ref C :: us, kw⟩)).units = A.units + 1 := by
  first | rfl | simp [Around.under, Code.cUnits, Code.frames, Code.isFrame]
theorem Room.make {k : Nat} {A : Around} (r : Room (k + 1) A) (C : Addr) (us : List Value) (kw : List (Str × Value)) : Room k (A.under (.builtin "type.__call__" ⟨.ref C :: us, kw⟩)) :=
  ⟨r.hd, by have := r.dp; rw [make_depth]; omega, by have := r.un; rw [make_units]; omega⟩
theorem Room.depth {k : Nat} {A : Around} (r : Room k A) : A.depth < recursionLimit := by have := r.dp; omega
theorem Room.units {k : Nat} {A : Around} (r : Room k A) : A.units + 64 < cLine := by have := r.un; omega
/-! ### argument lists and displays -/
def tNil : TA := fun _ H Q => Q [] H
def tCons (ta : TE) (tr : TA) : TA := fun σ H Q => ta σ H fun x H1 => tr σ H1 fun xs H2 => Q (x :: xs) H2
section
variable {X : Cx} {e : Expr} {es : List Expr} {te : TE} {t : TA} {pos : Pos}
theorem pa_nil : PA X [] tNil := fun _ _ _ _ H Q I h => Calls.spliced_nil ⟨[], H, I, .nil, h⟩
theorem pa_cons (ha : PE X e te) (hr : PA X es t) (hs : starEach (e :: es) X.env = (false, eval e X.env) :: starEach es X.env := by rfl) : PA X (e :: es) (tCons te t) := by
  intro pos pins s σ H Q I h
  rw [hs]
  show wpAny _ _ (spliced ((false, eval e X.env) :: backTo pos (starEach es X.env))) _ _ s
  refine Calls.spliced_cons (thn (ha pins s σ H _ I h) fun u s1 ⟨x, H1, I1, r1, q1⟩ => ?_)
  exact thn (hr pos pins s1 σ H1 _ I1 q1) fun us s2 ⟨xs, H2, I2, r2, q2⟩ => ⟨x :: xs, H2, I2, .cons r1 r2, q2⟩

/-- a tuple, a list of written items -/
def tTup (t : TA) : TE := fun σ H Q => t σ H fun xs H1 => xs.length ≤ sizeLine ∧ ∀ p, H1 p = none → Q (.ref p) (upd H1 p (.tup xs))
def tLst (t : TA) : TE := fun σ H Q => t σ H fun xs H1 => xs.length ≤ sizeLine ∧ ∀ p, H1 p = none → Q (.ref p) (upd H1 p (.lst xs))
theorem pe_tup {x1} (h : PA X es t) : PE X (.Tuple es x1 pos) (tTup t) := by
  intro pins s σ H Q I hq
  refine wpAny_Tuple_spliced (thn (h pos pins s σ H _ I hq) fun us s1 ⟨xs, H1, I1, r, z, q⟩ => ⟨by rw [← r.length]; exact z, ?_⟩)
  have hf : H1 s1.heap.objs.size = none := I1.hok.fresh (Nat.le_refl _)
  refine ⟨.ref s1.heap.objs.size, upd H1 s1.heap.objs.size (.tup xs), I1.laid (t' := s1.toks) (fun b u e => Heap.get?_push_of_some _ e) (Nat.le_refl _) ?_, rfl, q _ hf⟩
  exact ⟨z, us, r, ⟨_, Heap.get?_push_size _ rfl, rfl, _, rfl⟩⟩
theorem pe_lst (h : PA X es t) : PE X (.List es pos) (tLst t) := by
  intro pins s σ H Q I hq
  refine wpAny_List_spliced (thn (h pos pins s σ H _ I hq) fun us s1 ⟨xs, H1, I1, r, z, q⟩ => ⟨by rw [← r.length]; exact z, ?_⟩)
  have hf : H1 s1.heap.objs.size = none := I1.hok.fresh (Nat.le_refl _)
  refine ⟨.ref s1.heap.objs.size, upd H1 s1.heap.objs.size (.lst xs), I1.laid (t' := s1.toks) (fun b u e => Heap.get?_push_of_some _ e) (Nat.le_refl _) ?_, rfl, q _ hf⟩
  exact ⟨z, us, 0, r, Heap.get?_push_size _ rfl⟩
end

/-! ### what a def promises -/
/-- a def's promise: the bound arguments in the parameters' order, the heap, the wanted end, the wanted exception -/
abbrev Sp := List V → Hp → VK → XK → Prop
/-- how an exception lies behind a call (file 08 gives it): the callers' frames, abstract heap and state ahead of the call, the wish, the exception, the state -/
abbrev CXT := List Env → Hp → Shared → XK → Value → Shared → Prop

/-- the state at a call -/
structure Env0 (P : Program) (w : World) (K : PySem.W.Frag) (mg : Str → Option Value) (base : Heap) (A : Around) (outer : List Env) (s : Shared) (H : Hp) : Prop where
  frames : A.frames = some outer
  mod : Mod K mg base
  bs : ∀ b o, base.get? b = some o → s.heap.get? b = some o ∧ H b = none
  bsz : base.objs.size ≤ s.heap.objs.size
  funs : s.heap.FunFrames base outer
  frf : ∀ b ∈ frs outer, H b = none
  hok : HOk P w H s.heap
  bare : AllBare s.gens
/-- a call's end -/
def CE (outer : List Env) (P : Program) (w : World) (H : Hp) (s : Shared) (Q : VK) (u : Value) (s' : Shared) : Prop :=
  ∃ v H', s'.os = s.os ∧ AllBare s'.gens ∧ Un (frs outer) [] H H' s.heap s'.heap ∧ HOk P w H' s'.heap ∧ RelV v u ∧ Q v H'
def CR (CX : CXT) (outer : List Env) (P : Program) (w : World) (H : Hp) (s : Shared) (Q : VK) (E : XK) (r : Result) (s' : Shared) : Prop :=
  match r with
  | .ok (.ret u) => CE outer P w H s Q u s'
  | .ok _ => False
  | .error e => CX outer H s E e s'
structure FnOk (P : Program) (w : World) (K : PySem.W.Frag) (mg : Str → Option Value) (base : Heap) (CX : CXT) (k : Nat) (f : Addr) (fd : FuncData) (ps : List Str) (sp : Sp) : Prop where
  len : ∀ vs H Q E, sp vs H Q E → vs.length = ps.length
  run : ∀ (A : Around) (outer : List Env) (s : Shared) (H : Hp) (args : Args) (us : List Value) (vs : List V) (Q : VK) (E : XK), Room k A → Env0 P w K mg base A outer s H → BindsTo s fd args (ps.zip us) → Vals vs us → sp vs H Q E →
    codeAny (model P w) A (.call (.ref f) args) (CR CX outer P w H s Q E) s
theorem FnOk.mono {P : Program} {w : World} {K : PySem.W.Frag} {mg : Str → Option Value} {base : Heap} {CX : CXT} {j k : Nat} {f : Addr} {fd : FuncData} {ps : List Str} {sp : Sp} (F : FnOk P w K mg base CX j f fd ps sp) (h : j ≤ k) :
    FnOk P w K mg base CX k f fd ps sp := ⟨F.len, fun A outer s H args us vs Q E hr => F.run A outer s H args us vs Q E (hr.mono h)⟩
/-- a weaker promise -/
theorem FnOk.imp {P : Program} {w : World} {K : PySem.W.Frag} {mg : Str → Option Value} {base : Heap} {CX : CXT} {k : Nat} {f : Addr} {fd : FuncData} {ps : List Str} {sp sp' : Sp} (F : FnOk P w K mg base CX k f fd ps sp)
    (h : ∀ vs H Q E, sp' vs H Q E → sp vs H Q E) : FnOk P w K mg base CX k f fd ps sp' :=
  ⟨fun vs H Q E q => F.len vs H Q E (h _ _ _ _ q), fun A outer s H args us vs Q E hr he hb hv hs => F.run A outer s H args us vs Q E hr he hb hv (h _ _ _ _ hs)⟩

theorem Env0.make {P : Program} {w : World} {K : PySem.W.Frag} {mg : Str → Option Value} {base : Heap} {A : Around} {outer : List Env} {s : Shared} {H : Hp} (e : Env0 P w K mg base A outer s H) (C : Addr) (us : List Value) (kw : List (Str × Value)) :
    Env0 P w K mg base (A.under (.builtin "type.__call__" ⟨.ref C :: us, kw⟩)) outer s H := ⟨by first | exact e.frames | (simpa [Around.under, Code.envs, Code.isFrame, pushEnvs] using e.frames), e.mod, e.bs, e.bsz, e.funs, e.frf, e.hok, e.bare⟩
theorem Env0.in1 {P : Program} {w : World} {K : PySem.W.Frag} {mg : Str → Option Value} {base : Heap} {A : Around} {outer : List Env} {s : Shared} {H : Hp} (e : Env0 P w K mg base A outer s H) :
    Env0 P w K mg base A.in1 outer s H := ⟨e.frames, e.mod, e.bs, e.bsz, e.funs, e.frf, e.hok, e.bare⟩

section
variable {X : Cx} {pins : List (Addr × Obj)} {σ : St} {H : Hp} {s s' : Shared}
/-- from a body: what a callee wants -/
theorem Inv.env0 (I : Inv X pins σ H s) : Env0 X.prog X.w X.K X.mg X.base X.A X.stack s H :=
  ⟨I.ok.frames, I.ok.mod, I.bs, Nat.le_trans I.ok.bsz I.sz, I.stack, I.stkFree, I.hok, I.bare⟩
/-- behind a call -/
theorem Inv.after {Q : VK} {u : Value} (I : Inv X pins σ H s) (h : CE X.stack X.prog X.w H s Q u s') : EP X pins σ Q u s' := by
  obtain ⟨v, H', os, bare, un, hok, r, q⟩ := h
  obtain ⟨hh, g, d, t, os'⟩ := s'
  obtain rfl : os' = s.os := os
  exact ⟨v, H', I.call (h' := hh) (g' := g) (d' := d) (t' := t) (ch := []) un hok bare (fun b z => absurd z (by simp)), r, q⟩
end

/-! ### calls -/
/-- f(..): the written arguments, then the defaults dvs; E: what is wanted of an exception -/
def tCall (sp : Sp) (dvs : List V) (E : XK) (t : TA) : TE := fun σ H Q => t σ H fun vs H1 => sp (vs ++ dvs) H1 Q E
/-- o.m(..) of an instance of the class at C -/
def tMeth (C : Addr) (m : Str) (sp : Sp) (dvs : List V) (E : XK) (ta : TE) (t : TA) : TE := fun σ H Q => ta σ H fun x H1 => ∃ a dx fs, x = .ref a ∧ H1 a = some (.ins C dx fs) ∧ fs.lookup m = none ∧
  t σ H1 fun vs H2 => sp (x :: (vs ++ dvs)) H2 Q E
/-- C(..): a new instance and its dict, then __init__ -/
def tMake (C : Addr) (sp : Sp) (dvs : List V) (E : XK) (t : TA) : TE := fun σ H Q => t σ H fun vs H1 => ∀ x dx, H1 x = none → H1 dx = none → dx ≠ x →
  sp (.ref x :: (vs ++ dvs)) (upd (upd H1 dx (.own x)) x (.ins C dx [])) (fun v H2 => v = .non ∧ Q (.ref x) H2) E

/-- how the parameters are bound: us the positional arguments, kw the keywords' values by name, ds the defaults that fill up -/
def Binds (K : PySem.W.Frag) (fd : FuncData) (ps : List Str) (ds : List Value) : Prop :=
  ∀ (s : Shared) (us : List Value), K.In s.heap → (us ++ ds).length = ps.length → BindsTo s fd ⟨us, []⟩ (ps.zip (us ++ ds))
/-- every parameter is given -/
theorem Binds.all {K : PySem.W.Frag} {fd : FuncData} {ps : List Str} (h : ∀ us : List Value, us.length = ps.length → bindArgs fd ⟨us, []⟩ = pure (ps.zip us)) : Binds K fd ps [] := fun s us _ hl => by
  rw [List.append_nil] at hl ⊢
  exact .of_eq (h us hl)

/-- an exception of a callee reaches what this body wants of exceptions -/
def Passes (CX : CXT) (X : Cx) (E : XK) : Prop := ∀ (pins : List (Addr × Obj)) (σ : St) (H : Hp) (s : Shared) (e : Value) (s' : Shared), Inv X pins σ H s → CX X.stack H s E e s' → X.xe e s'

section
variable {X : Cx} {CX : CXT} {k : Nat} {f C : Addr} {fd : FuncData} {ps : List Str} {sp : Sp} {dvs : List V} {ds : List Value} {E : XK} {x m : Str} {p pos apos : Pos} {e o : Expr} {es : List Expr} {ta : TE} {t : TA}

/-- the callee runs -/
theorem run_fn {pins : List (Addr × Obj)} {σ : St} {H : Hp} {s : Shared} {Q : VK} {us : List Value} {vs : List V} (F : FnOk X.prog X.w X.K X.mg X.base CX k f fd ps sp) (hr : Room k X.A) (hb : Binds X.K fd ps ds) (hd : Vals dvs ds) (hx : Passes CX X E)
    (I : Inv X pins σ H s) (r : Vals vs us) (h : sp (vs ++ dvs) H Q E) : wpAny (model X.prog X.w) X.A (call (.ref f) us) (EP X pins σ Q) X.xe s := by
  have r2 : Vals (vs ++ dvs) (us ++ ds) := r.append hd
  have hl : (us ++ ds).length = ps.length := by rw [← r2.length]; exact F.len _ _ _ _ h
  refine wpAny_call (codeAny_mono (F.run X.A X.stack s H ⟨us, []⟩ (us ++ ds) (vs ++ dvs) Q E hr I.env0 (hb s us I.kIn hl) r2 h) fun r s' hq => ?_)
  cases r with
  | error e => exact hx pins σ H s e s' I hq
  | ok fl =>
    cases fl with
    | ret u => exact I.after hq
    | next => exact False.elim hq
    | brk => exact False.elim hq
    | cont => exact False.elim hq

theorem pe_call (F : FnOk X.prog X.w X.K X.mg X.base CX k f fd ps sp) (hr : Room k X.A) (hg : Gl X x) (hm : X.mg x = some (.ref f)) (hk : PySem.W.keepIn X.K (.ref f) = true) (hb : Binds X.K fd ps ds) (hd : Vals dvs ds) (hx : Passes CX X E)
    (ha : PA X (e :: es) t) (hdb : (x == ("__debug__" : Str)) = false := by decide) (he : starEach (e :: es) X.env = (false, eval e X.env) :: starEach es X.env := by rfl) (hpl : (backTo pos (starEach es X.env)).any (·.1) = false := by rfl) :
    PE X (.Call (.Name x p) (e :: es) [] pos) (tCall sp dvs E t) := by
  intro pins s σ H Q I h
  refine wpAny_Call_Name_kw (ld_glob I hg hm ?_ hdb)
  refine PySem.W.callWith_K (h₀ := X.base) I.ok.mod.kin hk (thn (ha pos pins s σ H _ I h) fun us s1 ⟨vs, H1, I1, r, q⟩ => ⟨I1.kIn, ?_⟩) he hpl
  exact run_fn F hr hb hd hx I1 r q
/-- o.m(e, ..) -/
theorem pe_meth {pl : Sem Bool} (he : PE X o ta) (c : Cls X.K C) (hm : Meth X.K C m f) (F : FnOk X.prog X.w X.K X.mg X.base CX k f fd ps sp) (hr : Room k X.A) (hb : Binds X.K fd ps ds) (hd : Vals dvs ds) (hx : Passes CX X E) (ha : PA X (e :: es) t)
    (hst : starEach (e :: es) X.env = (false, eval e X.env) :: starEach es X.env := by rfl) (hpl : (backTo pos (starEach es X.env)).any (·.1) = false := by rfl)
    (ht : eval (.Call (.Attribute o m apos) (e :: es) [] pos) X.env = (do
      let ov ← eval o X.env
      standAt apos.atName
      let (f, first) ← holding [ov] (getMethod ov m pl)
      callWith pos f first (backTo pos (starEach (e :: es) X.env)) (backToKw pos (keywordEach [] X.env))) := by rfl) :
    PE X (.Call (.Attribute o m apos) (e :: es) [] pos) (tMeth C m sp dvs E ta t) := by
  intro pins s σ H Q I h
  refine PySem.W.methodCall_KW (pl := pl) (thn (he pins s σ H _ I h) fun u s1 ⟨x, H1, I1, rx, a, dx, fs, ex, ea, l, q⟩ => ?_) ht
  subst ex
  obtain rfl : u = Value.ref a := rx
  refine getmeth_ok I1 ea c hm l ?_
  refine PySem.W.callWith_K (first := [.ref a]) (h₀ := X.base) I.ok.mod.kin hm.kp (thn (ha pos pins s1 σ H1 _ I1 q) fun us s2 ⟨vs, H2, I2, r, q2⟩ => ⟨I2.kIn, ?_⟩) hst hpl
  exact run_fn (us := .ref a :: us) (vs := .ref a :: vs) F hr hb hd hx I2 (.cons rfl r) q2
/-- what a class must have to be made -/
structure Mk (K : PySem.W.Frag) (C f : Addr) : Prop where
  makes : PySem.W.makesIn K C = true
  init : PySem.W.findIn K (.ref C) "__init__" = some (some (.ref f))
  fn : PySem.W.isFn K (.ref f) = true
  kp : PySem.W.keepIn K (.ref C) = true

theorem run_make {pins : List (Addr × Obj)} {σ : St} {H : Hp} {s : Shared} {Q : VK} {us : List Value} {vs : List V} (M : Mk X.K C f) (F : FnOk X.prog X.w X.K X.mg X.base CX k f fd ps sp) (hr : Room (k + 1) X.A) (hb : Binds X.K fd ps ds) (hd : Vals dvs ds)
    (hx : Passes CX X E) (I : Inv X pins σ H s) (r : Vals vs us)
    (h : ∀ x dx, H x = none → H dx = none → dx ≠ x → sp (.ref x :: (vs ++ dvs)) (upd (upd H dx (.own x)) x (.ins C dx [])) (fun v H2 => v = .non ∧ Q (.ref x) H2) E) :
    wpAny (model X.prog X.w) X.A (call (.ref C) us) (EP X pins σ Q) X.xe s := by
  have hq := h (s.heap.objs.size + 1) s.heap.objs.size (I.hok.fresh (Nat.le_succ _)) (I.hok.fresh (Nat.le_refl _)) (Nat.ne_of_lt (Nat.lt_succ_self _))
  have I2 := Inv.made (C := C) I
  have r2 : Vals (V.ref (s.heap.objs.size + 1) :: (vs ++ dvs)) (Value.ref (s.heap.objs.size + 1) :: (us ++ ds)) := .cons rfl (r.append hd)
  have hl : (Value.ref (s.heap.objs.size + 1) :: us ++ ds).length = ps.length := by
    have e := r2.length
    rw [F.len _ _ _ _ hq] at e
    exact e.symm
  refine wpAny_call (make_map (f := f) I.kIn M.makes M.init (beq_iff_eq.mp M.fn) (codeAny_mono (F.run _ X.stack _ _ ⟨Value.ref (s.heap.objs.size + 1) :: us, []⟩ (Value.ref (s.heap.objs.size + 1) :: (us ++ ds)) _ _ E (hr.make C us [])
    (I2.env0.make C us []) (hb _ (Value.ref (s.heap.objs.size + 1) :: us) I2.kIn hl) r2 hq) fun r s' hq' => ?_))
  cases r with
  | error e => exact hx pins σ _ _ e s' I2 hq'
  | ok fl =>
    cases fl with
    | ret u =>
      obtain ⟨v, H', I3, rv, ev, q3⟩ := I2.after hq'
      subst ev
      exact ⟨rv, ⟨V.ref (s.heap.objs.size + 1), H', I3, rfl, q3⟩⟩
    | next => exact False.elim hq'
    | brk => exact False.elim hq'
    | cont => exact False.elim hq'
theorem pe_make (M : Mk X.K C f) (F : FnOk X.prog X.w X.K X.mg X.base CX k f fd ps sp) (hr : Room (k + 1) X.A) (hg : Gl X x) (hm : X.mg x = some (.ref C)) (hb : Binds X.K fd ps ds) (hd : Vals dvs ds) (hx : Passes CX X E)
    (ha : PA X (e :: es) t) (hdb : (x == ("__debug__" : Str)) = false := by decide) (he : starEach (e :: es) X.env = (false, eval e X.env) :: starEach es X.env := by rfl) (hpl : (backTo pos (starEach es X.env)).any (·.1) = false := by rfl) :
    PE X (.Call (.Name x p) (e :: es) [] pos) (tMake C sp dvs E t) := by
  intro pins s σ H Q I h
  refine wpAny_Call_Name_kw (ld_glob I hg hm ?_ hdb)
  refine PySem.W.callWith_K (h₀ := X.base) I.ok.mod.kin M.kp (thn (ha pos pins s σ H _ I h) fun us s1 ⟨vs, H1, I1, r, q⟩ => ⟨I1.kIn, ?_⟩) he hpl
  exact run_make M F hr hb hd hx I1 r q
end

/-! ### keywords -/
section
variable {X : Cx} {CX : CXT} {k : Nat} {f C : Addr} {fd : FuncData} {ps ks : List Str} {sp : Sp} {E : XK} {x m : Str} {p pos apos kpos : Pos} {e o : Expr} {es : List Expr} {kws : List Keyword} {te ta : TE} {t tk : TA} {nm : Option Str}
/-- how a call with keywords binds: g puts the positional values us and the keywords' values ws (names ks) in the parameters' order, defaults among them -/
structure KBinds (K : PySem.W.Frag) (fd : FuncData) (ps ks : List Str) (g : List Value → List Value → List Value) (gV : List V → List V → List V) : Prop where
  to : ∀ (s : Shared) (us ws : List Value), K.In s.heap → (g us ws).length = ps.length → BindsTo s fd ⟨us, ks.zip ws⟩ (ps.zip (g us ws))
  rel : ∀ {vs : List V} {us : List Value} {zs : List V} {ws : List Value}, Vals vs us → Vals zs ws → Vals (gV vs zs) (g us ws)
variable {g : List Value → List Value → List Value} {gV : List V → List V → List V}
end

/-! ### a def's body keeps its promise -/
/-- names: the parameters first -/
structure FnScope (N P : List Str) (sc : Scope) : Prop where
  kind : sc.kind = .function
  co : sc.isCoroutine = false
  gen : sc.isGenerator = false
  nd : N.Nodup
  pre : N.take P.length = P
  par : ∀ x ∈ P, sc.names.lookup x = some .local ∨ sc.names.lookup x = some .cell
  nofree : ∀ y ∈ sc.names, y.2 ≠ .free

theorem bindL_out {kindOf : Str → Option NameKind} {x : Str} : ∀ {binds : List (Str × Value)} {m : Str → Option Value}, (∀ v, (x, v) ∉ binds) → bindL kindOf binds m x = m x
  | [], _, _ => rfl
  | (n, v) :: r, m, h => by
    unfold bindL
    rw [bindL_out fun w hw => h w (List.mem_cons_of_mem _ hw)]
    split
    · have : x ≠ n := by rintro rfl; exact h v List.mem_cons_self
      simp [this]
    · rfl
theorem bindC_out {kindOf : Str → Option NameKind} {x : Str} : ∀ {binds : List (Str × Value)} {m : Str → Option Value}, (∀ v, (x, v) ∉ binds) → bindC kindOf binds m x = m x
  | [], _, _ => rfl
  | (n, v) :: r, m, h => by
    unfold bindC
    rw [bindC_out fun w hw => h w (List.mem_cons_of_mem _ hw)]
    split
    · rfl
    · have : x ≠ n := by rintro rfl; exact h v List.mem_cons_self
      simp [this]
theorem bindL_get {kindOf : Str → Option NameKind} {x : Str} {v : Value} : ∀ {P : List Str} {vs : List Value} {i : Nat} {m : Str → Option Value}, P.Nodup → P[i]? = some x → vs[i]? = some v → kindOf x = some .local →
    bindL kindOf (P.zip vs) m x = some v
  | [], _, _, _, _, h, _, _ => by simp at h
  | _ :: _, [], _, _, _, _, h, _ => by simp at h
  | p :: P, w :: vs, 0, m, nd, h1, h2, hk => by
    simp at h1 h2; subst h1; subst h2
    show bindL kindOf ((p, w) :: P.zip vs) m p = _
    unfold bindL
    rw [bindL_out fun v hv => (List.nodup_cons.mp nd).1 (List.of_mem_zip hv).1, if_pos hk]
    simp
  | p :: P, w :: vs, i + 1, m, nd, h1, h2, hk => by
    show bindL kindOf ((p, w) :: P.zip vs) m x = _
    unfold bindL
    exact bindL_get (i := i) (List.nodup_cons.mp nd).2 (by simpa using h1) (by simpa using h2) hk
theorem bindC_get {kindOf : Str → Option NameKind} {x : Str} {v : Value} : ∀ {P : List Str} {vs : List Value} {i : Nat} {m : Str → Option Value}, P.Nodup → P[i]? = some x → vs[i]? = some v → kindOf x ≠ some .local →
    bindC kindOf (P.zip vs) m x = some v
  | [], _, _, _, _, h, _, _ => by simp at h
  | _ :: _, [], _, _, _, _, h, _ => by simp at h
  | p :: P, w :: vs, 0, m, nd, h1, h2, hk => by
    simp at h1 h2; subst h1; subst h2
    show bindC kindOf ((p, w) :: P.zip vs) m p = _
    unfold bindC
    rw [bindC_out fun v hv => (List.nodup_cons.mp nd).1 (List.of_mem_zip hv).1, if_neg hk]
    simp
  | p :: P, w :: vs, i + 1, m, nd, h1, h2, hk => by
    show bindC kindOf ((p, w) :: P.zip vs) m x = _
    unfold bindC
    exact bindC_get (i := i) (List.nodup_cons.mp nd).2 (by simpa using h1) (by simpa using h2) hk

/-- the names' values at the entry -/
def start (N : List Str) (vs : List V) : St := vs.map some ++ List.replicate (N.length - vs.length) none

/-- the context of a def's body, at its entry; an exception leaves the frame, then lies as CX says -/
def cxOf (CX : CXT) (P : Program) (w : World) (K : PySem.W.Frag) (mg : Str → Option Value) (base : Heap) (N : List Str) (qual : Str) (scope : Scope) (f : Addr) (cd : Value) (A : Around) (outer : List Env) (s : Shared) (H : Hp) (E : XK) : Cx where
  prog := P
  w := w
  K := K
  mg := mg
  base := base
  A := A.deeper (envOfC qual scope s.heap.objs.size f cd)
  N := N
  s_0 := s
  H_0 := H
  env := envOfC qual scope s.heap.objs.size f cd
  outer := outer
  stack := envOfC qual scope s.heap.objs.size f cd :: outer
  ex := []
  calm := true
  fn := fun _ => true
  pn := []
  xe := fun e s' => wpAny (model P w) (A.deeper (envOfC qual scope s.heap.objs.size f cd)) (leaving (envOfC qual scope s.heap.objs.size f cd) e) (fun _ s'' => CX outer H s E e s'') (fun e' s'' => CX outer H s E e' s'') s'

theorem cell_has {sc : Scope} {n : Nat} {x : Str} (h : sc.names.lookup x = some .cell) : ∃ c, (cellsFrom n sc.names []).lookup x = some c := by
  have q := PySem.W.cellsFrom_some sc.names n [] (.inl h)
  exact Option.isSome_iff_exists.mp q

theorem inv_start {CX : CXT} {P : Program} {w : World} {K : PySem.W.Frag} {mg : Str → Option Value} {base : Heap} {N ps : List Str} {qual : Str} {scope : Scope} {f : Addr} {cd : Value} {A : Around} {outer : List Env} {s s1 : Shared} {H : Hp} {E : XK} {us : List Value} {vs : List V}
    (S : FnScope N ps scope) (hd : A.handled = none) (e0 : Env0 P w K mg base A outer s H) (hl : vs.length = ps.length) (r : Vals vs us)
    (x : InCallC s s.heap.objs.size (bindL (envOfC qual scope s.heap.objs.size f cd).kindOf (ps.zip us) fun _ => none) (cellsFrom (s.heap.objs.size + 1) scope.names []) (bindC (envOfC qual scope s.heap.objs.size f cd).kindOf (ps.zip us) fun _ => none) s1) :
    Inv (cxOf CX P w K mg base N qual scope f cd A outer s H E) [] (start N vs) H s1 := by
  have hpl : ps.length ≤ N.length := by have := congrArg List.length S.pre; rw [List.length_take] at this; omega
  obtain ⟨h1, tk, rfl, hk⟩ := x.done
  have noA : ∀ b : Addr, b ∉ (cxOf CX P w K mg base N qual scope f cd A outer s H E).ex := fun b z => absurd (show b ∈ ([] : List Addr) from z) (by simp)
  refine ⟨⟨e0.mod, S.kind, rfl, rfl, Nat.le_refl _, fun y z c h1 h2 => ?_, fun y hy => ?_, fun y c _ h => ?_, fun _ => hd, Around.frames_deeper e0.frames, .inr ⟨rfl, rfl⟩, fun b z => absurd z (noA b), e0.bs, e0.bsz, fun b _ _ => noA b, fun b z => absurd z (noA b), e0.funs, e0.frf⟩,
    rfl, e0.bare, Un.kept hk, ⟨_, x.toInCall.ns, fun i y v h1 h2 h3 => ?_⟩, fun y c h => ⟨_, x.cell y c h⟩, e0.hok.fresh (Nat.le_refl _), fun y c h => ?_, fun p hp => absurd (show p ∈ ([] : List (Addr × Obj)) from hp) (by simp), e0.hok.kept hk, ?_⟩
  · exact name_of_addr x.apart (PySem.mem_of_lookup h1) (PySem.mem_of_lookup h2)
  · have hy : scope.names.lookup y = some .cell ∨ scope.names.lookup y = some .free := hy
    rcases hy with hy | hy
    · exact cell_has hy
    · exact absurd rfl (S.nofree _ (PySem.mem_of_lookup hy))
  · exact Nat.le_of_lt (x.above y c (PySem.mem_of_lookup h))
  · have hi : i < vs.length := by
      unfold start at h2
      by_cases hi : i < vs.length
      · exact hi
      · rw [List.getElem?_append_right (by simpa using hi)] at h2
        rw [List.getElem?_replicate] at h2
        split at h2 <;> cases h2
    have ha : vs[i]? = some v := by
      unfold start at h2
      rw [List.getElem?_append_left (by simpa using hi), List.getElem?_map] at h2
      cases e : vs[i]? with
      | none => rw [e] at h2; cases h2
      | some a => rw [e] at h2; cases h2; rfl
    obtain ⟨u, hu, rv⟩ := r.get ha
    have hp : ps[i]? = some y := by
      rw [← S.pre, List.getElem?_take_of_lt (by omega)]; exact h1
    have ndP : ps.Nodup := by rw [← S.pre]; exact S.nd.sublist (List.take_sublist _ _)
    refine ⟨u, rv, ?_⟩
    rcases S.par y (List.mem_of_getElem? hp) with k | k
    · exact .inl ⟨k, bindL_get ndP hp hu k⟩
    · obtain ⟨c, e⟩ := cell_has (n := s.heap.objs.size + 1) k
      refine .inr ⟨.inl k, c, e, ?_⟩
      have q := x.cell y c e
      rw [bindC_get ndP hp hu (by show scope.names.lookup y ≠ _; rw [k]; decide)] at q
      exact q
  · exact e0.hok.fresh (Nat.le_of_lt (x.above y c (PySem.mem_of_lookup h)))
  · unfold start
    show _ = N.length
    rw [List.length_append, List.length_map, List.length_replicate]
    omega

/-- THE RULE: a def (or a method) of the text, by its body. The body's reading t is chosen for each entry; it is run at the parameters' values -/
theorem fn_of {CX : CXT} {P : Program} {w : World} {K : PySem.W.Frag} {mg : Str → Option Value} {base : Heap} {k : Nat} {f : Addr} {name qual : Str} {params : Arguments} {body : List Stmt} {scope : Scope} {dV kV doc pm cdv ct oc : Value} {an od : Option Addr}
    {osl : Array (Option Value)} {N ps : List Str} {sp : Sp} (lk : K.lookup f = some ⟨oc, od, .func (PySem.W.fnOf name qual params body scope dV kV doc pm an cdv ct), osl⟩) (hcd : PySem.W.codeIn K cdv qual = true) (S : FnScope N ps scope)
    (len : ∀ vs H Q E, sp vs H Q E → vs.length = ps.length)
    (hbody : ∀ (A : Around) (outer : List Env) (s : Shared) (H : Hp) (vs : List V) (Q : VK) (E : XK), Room k (A.deeper (envOfC qual scope s.heap.objs.size f cdv)) → sp vs H Q E →
      ∃ t, PSs (cxOf CX P w K mg base N qual scope f cdv A outer s H E) body t ∧ t { nx := fun _ H' => Q .non H', rt := Q } (start N vs) H) :
    FnOk P w K mg base CX (k + 1) f (PySem.W.fnOf name qual params body scope dV kV doc pm an cdv ct) ps sp := by
  refine ⟨len, fun A outer s H args us vs Q E hr e0 hb r hsp => ?_⟩
  have hl := len _ _ _ _ hsp
  have KX : K.In s.heap := e0.mod.kin.keeps fun b o e => (e0.bs b o e).1
  have lim : s.heap.NoLimit := e0.mod.nolimit.keeps fun b o e => (e0.bs b o e).1
  have hkind : ∀ y ∈ ps.zip us, scope.names.lookup y.1 = some .local ∨ (scope.names.lookup y.1 = some .cell ∧ ((cellsFrom (s.heap.objs.size + 1) scope.names []).lookup y.1).isSome = true) := fun ⟨n, v⟩ hy => by
    rcases S.par n (List.of_mem_zip hy).1 with q | q
    · exact .inl q
    · exact .inr ⟨q, PySem.W.cellsFrom_some _ _ _ (.inl q)⟩
  refine codeAny_call_function hr.depth (KX _ _ lk) rfl S.co S.gen rfl (PySem.W.codeRec_of KX hcd) (hb _ _ _ _ ?_)
  refine wpAny_newFunctionEnv_cells S.kind hkind fun env he s1 x => ?_
  subst he
  refine ⟨lim.keeps x.toInCall.keep, codeAny_func ?_⟩
  obtain ⟨t, ht, hq⟩ := hbody A outer s H vs Q E (hr.deeper _) hsp
  have I : Inv (cxOf CX P w K mg base N qual scope f cdv A outer s H E) [] (start N vs) H s1 := inv_start S hr.hd e0 hl r x
  refine wpAny_mono (ht [] s1 (start N vs) H _ I hq) (fun fl s' hs => ?_) fun e s' hs => hs
  have fin : ∀ {σ' : St} {H' : Hp} {v : V} {u : Value}, Inv (cxOf CX P w K mg base N qual scope f cdv A outer s H E) [] σ' H' s' → RelV v u → Q v H' → CE outer P w H s Q u s' :=
    fun {σ' H' v u} J rv q => ⟨v, H', J.os, J.bare, J.base, J.hok, rv, q⟩
  cases fl with
  | ret u =>
    obtain ⟨v, σ', H', J, rv, q⟩ := hs
    exact fin J rv q
  | next =>
    obtain ⟨σ', H', J, q⟩ := hs
    exact fin (v := V.non) (u := Value.none) J rfl q
  | brk =>
    obtain ⟨_, _, _, q⟩ := hs
    exact False.elim q
  | cont =>
    obtain ⟨_, _, _, q⟩ := hs
    exact False.elim q
end L2

namespace L2
open PySem PySem.Spec PyProof.Rows
section
variable {X : Cx} {x : Str} {p pos : Pos} {e : Expr} {es : List Expr} {t : TA} {id T : String} {r : List V → Hp → VK → Prop}

def tCB (r : List V → Hp → VK → Prop) (t : TA) : TE := fun σ H Q => t σ H fun vs H1 => r vs H1 Q
/-- f(e, ..), f a built-in function -/
theorem pe_callB (hc : CallR X (.builtin id) r) (hg : Gl X x) (hm : X.mg x = none) (hv : bootBuiltins x = some (.builtin id)) (ha : PA X (e :: es) t) (hn : x ≠ "__name__" := by decide) (hdb : (x == ("__debug__" : Str)) = false := by decide)
    (he : starEach (e :: es) X.env = (false, eval e X.env) :: starEach es X.env := by rfl) (hpl : (backTo pos (starEach es X.env)).any (·.1) = false := by rfl) : PE X (.Call (.Name x p) (e :: es) [] pos) (tCB r t) := by
  intro pins s σ H Q I h
  refine wpAny_Call_Name_kw (ld_blt I hg hm hv ?_ hn hdb)
  exact PyProof.Rows.callWith_builtin1 (thn (ha pos pins s σ H _ I h) fun us s1 ⟨vs, H1, I1, r1, q1⟩ => hc pins s1 σ H1 vs us Q I1 r1 q1) he hpl
/-- T(e, ..), T a built-in type -/
theorem pe_callTy (hc : CallR X (.type T) r) (hg : Gl X x) (hm : X.mg x = none) (hv : bootBuiltins x = some (.type T)) (ha : PA X (e :: es) t) (hn : x ≠ "__name__" := by decide) (hdb : (x == ("__debug__" : Str)) = false := by decide)
    (he : starEach (e :: es) X.env = (false, eval e X.env) :: starEach es X.env := by rfl) (hpl : (backTo pos (starEach es X.env)).any (·.1) = false := by rfl) : PE X (.Call (.Name x p) (e :: es) [] pos) (tCB r t) := by
  intro pins s σ H Q I h
  refine wpAny_Call_Name_kw (ld_blt I hg hm hv ?_ hn hdb)
  exact PyProof.Rows.callWith_type1 (thn (ha pos pins s σ H _ I h) fun us s1 ⟨vs, H1, I1, r1, q1⟩ => hc pins s1 σ H1 vs us Q I1 r1 q1) he hpl
end
end L2

namespace HT
open PySem PyProof.Rows

section
open PySem.SeqAt
open PySem.AutoSeq1 (wpAny_loadPart')
open PySem.MeetsSeq PySem.MeetsSeq2 PySem.MeetsSeq3

end

section
variable {prog : Program} {w : World} {A : Around} {E : Value → Shared → Prop} {s : Shared}

/-! ### t[a:b], not the whole -/
/-- a slice's bound as a place among n (d where it is left out) -/
def sIx (n d : Nat) : Option Int → Nat
  | none => d
  | some v => if v < 0 then (v + (n : Int)).toNat else min v.toNat n
theorem sIx_none (n d : Nat) : sIx n d none = d := rfl
theorem sIx_nat (n d k : Nat) : sIx n d (some (k : Int)) = min k n := by
  show (if (k : Int) < 0 then ((k : Int) + (n : Int)).toNat else min (k : Int).toNat n) = min k n
  rw [if_neg (by omega), Int.toNat_natCast]
theorem sIx_le (n d : Nat) (hd : d ≤ n) (o : Option Int) : sIx n d o ≤ n := by
  cases o with
  | none => exact hd
  | some v =>
    show (if v < 0 then (v + (n : Int)).toNat else min v.toNat n) ≤ n
    by_cases hv : v < 0
    · rw [if_pos hv]; omega
    · rw [if_neg hv]; exact Nat.min_le_right _ _
end
end HT

namespace L2
open PySem PySem.Spec PyProof.Rows

/-! ### the parts of a slice -/
abbrev TO := St → Hp → (Option Int → Hp → Prop) → Prop
/-- a slice's part (left out, or an int) -/
def PO (X : Cx) (e : Option Expr) (t : TO) : Prop :=
  ∀ (pins : List (Addr × Obj)) (s : Shared) (σ : St) (H : Hp) (Q : Option Int → Hp → Prop), Inv X pins σ H s → t σ H Q →
    wpAny (model X.prog X.w) X.A (evalPart e X.env) (fun u s' => ∃ o H', Inv X pins σ H' s' ∧ IsPart u o ∧ Q o H') X.xe s
def tNoPart : TO := fun _ H Q => Q none H
def tPart (t : TE) : TO := fun σ H Q => t σ H fun x H1 => ∃ i, x = .int i ∧ Q (some i) H1

section
variable {X : Cx} {e : Expr} {te : TE} {lo hi : Option Expr} {tl th : TO} {pos p2 : Pos}

theorem po_none : PO X none tNoPart := by
  intro pins s σ H Q I h
  rw [evalPart_none]
  exact wpAny_pure ⟨none, H, I, .none, h⟩
theorem po_some (h : PE X e te) : PO X (some e) (tPart te) := by
  intro pins s σ H Q I hw
  rw [evalPart_some]
  refine thn (h pins s σ H _ I hw) fun u s1 ⟨x, H1, I1, r1, q1⟩ => ?_
  obtain ⟨i, rfl, q⟩ := q1
  obtain ⟨t, rfl⟩ := r1
  exact ⟨some i, H1, I1, .int i t, q⟩

/-- what a slice of a value is, by values: the slice object stands at sl -/
def SlR (X : Cx) (r : V → Option Int → Option Int → Hp → VK → Prop) : Prop :=
  ∀ (pins : List (Addr × Obj)) (s : Shared) (σ : St) (H : Hp) (x : V) (v vl vu : Value) (lo hi : Option Int) (sl : Addr) (Q : VK), Inv X pins σ H s → RelV x v → s.heap.IsSliceOf sl vl vu .none → IsPart vl lo → IsPart vu hi → r x lo hi H Q →
    ∃ T id, typeLookup (.type T) "__getitem__" = pure (some (.builtin id)) ∧ s.TypeIs v T ∧ wpAny (model X.prog X.w) X.A (getItem v (.ref sl)) (EP X pins σ Q) X.xe s
theorem SlR.or {r r' : V → Option Int → Option Int → Hp → VK → Prop} (h : SlR X r) (h' : SlR X r') : SlR X (fun x lo hi H Q => r x lo hi H Q ∨ r' x lo hi H Q) := by
  intro pins s σ H x v vl vu lo hi sl Q I rx hs pl pu q
  rcases q with q | q
  · exact h pins s σ H x v vl vu lo hi sl Q I rx hs pl pu q
  · exact h' pins s σ H x v vl vu lo hi sl Q I rx hs pl pu q
def tSl (r : V → Option Int → Option Int → Hp → VK → Prop) (te : TE) (tl th : TO) : TE := fun σ H Q => te σ H fun x H1 => tl σ H1 fun l H2 => th σ H2 fun u H3 => r x l u H3 Q
/-- a[lo:hi], any a -/
theorem pe_slice {r : V → Option Int → Option Int → Hp → VK → Prop} (hr : SlR X r) (he : PE X e te) (hl : PO X lo tl) (hu : PO X hi th) : PE X (.Subscript e (.Slice lo hi none p2) pos) (tSl r te tl th) := by
  intro pins s σ H Q I h
  refine Subscript_ (thn (he pins s σ H _ I h) fun v s1 ⟨x, H1, I1, r1, q1⟩ => ?_)
  refine wpAny_Slice (thn (hl pins s1 σ H1 _ I1 q1) fun vl s2 ⟨l, H2, I2, pl, q2⟩ => thn (hu pins s2 σ H2 _ I2 q2) fun vu s3 ⟨u, H3, I3, pu, q3⟩ => ?_)
  rw [evalPart_none]
  refine wpAny_pure ?_
  have I4 : Inv X pins σ H3 { s3 with heap := s3.heap.push { cls := .type "slice", data := .fields #[vl, vu, .none] } } := I3.kept (t' := s3.toks) fun b ob q => Heap.get?_push_of_some _ q
  obtain ⟨T, id, hT, ht, hg⟩ := hr pins { s3 with heap := s3.heap.push { cls := .type "slice", data := .fields #[vl, vu, .none] } } σ H3 x v vl vu l u s3.heap.objs.size Q I4 r1 (Heap.IsSliceOf.new ..) pl pu q3
  show wpAny (model X.prog X.w) X.A (subscriptTail e (.Slice lo hi none p2) v (.ref s3.heap.objs.size)) (EP X pins σ Q) X.xe { s3 with heap := s3.heap.push { cls := .type "slice", data := .fields #[vl, vu, .none] } }
  exact tail_any (ops := [.ref s3.heap.objs.size, v]) ht hT hg (by with_unfolding_all rfl)

/-- the items of xs[lo:hi] -/
def cutV (xs : List V) (lo hi : Option Int) : List V := (xs.drop (HT.sIx xs.length 0 lo)).take (HT.sIx xs.length xs.length hi - HT.sIx xs.length 0 lo)
theorem cutV_length (xs : List V) (lo hi : Option Int) : (cutV xs lo hi).length ≤ xs.length := by
  unfold cutV
  rw [List.length_take, List.length_drop]
  omega
/-! ### t < u, t + u -/
end
end L2

namespace L2
open PySem PySem.Spec PyProof.Rows

/-! ### places -/
/-- the place that an index of any sign means -/
def ixN (n : Nat) (i : Int) : Option Nat := if 0 ≤ i then (if i < n then some i.toNat else none) else if -(n : Int) ≤ i then some (i + n).toNat else none
def atI {α : Type} (xs : List α) (i : Int) : Option α := (ixN xs.length i).bind fun j => xs[j]?
theorem ixN_seq {n : Nat} {i : Int} {j : Nat} (h : ixN n i = some j) : seqIndex? i n = some j ∧ j < n ∧ -(n : Int) ≤ i ∧ i < n := by
  unfold ixN at h
  by_cases h0 : 0 ≤ i
  · rw [if_pos h0] at h
    by_cases h1 : i < n
    · rw [if_pos h1] at h
      have e : i.toNat = j := Option.some.inj h
      exact ⟨by rw [seqIndex_of h0 h1, e], by omega, by omega, h1⟩
    · rw [if_neg h1] at h; cases h
  · rw [if_neg h0] at h
    by_cases h1 : -(n : Int) ≤ i
    · rw [if_pos h1] at h
      have e : (i + n).toNat = j := Option.some.inj h
      exact ⟨by rw [seqIndex_neg (by omega) h1, e], by omega, h1, by omega⟩
    · rw [if_neg h1] at h; cases h
theorem atI_get {α : Type} {xs : List α} {i : Int} {v : α} (h : atI xs i = some v) : ∃ j, seqIndex? i xs.length = some j ∧ xs[j]? = some v ∧ j < xs.length ∧ -(xs.length : Int) ≤ i ∧ i < xs.length := by
  unfold atI at h
  cases e : ixN xs.length i with
  | none => rw [e] at h; cases h
  | some j =>
    rw [e] at h
    obtain ⟨h1, h2, h3, h4⟩ := ixN_seq e
    exact ⟨j, h1, h, h2, h3, h4⟩
theorem atI_nat {α : Type} {xs : List α} {j : Nat} {v : α} (h : xs[j]? = some v) : atI xs (j : Int) = some v := by
  have hj : j < xs.length := (List.getElem?_eq_some_iff.mp h).1
  have e : ixN xs.length (j : Int) = some j := by
    unfold ixN
    rw [if_pos (by omega), if_pos (by omega)]; simp
  unfold atI; rw [e]; exact h
theorem atI_last {α : Type} (xs : List α) (v : α) : atI (xs ++ [v]) (-1) = some v := by
  have hl : (xs ++ [v]).length = xs.length + 1 := by simp
  have e : ixN (xs ++ [v]).length (-1) = some xs.length := by
    unfold ixN
    rw [hl, if_neg (by decide), if_pos (by omega)]
    congr 1
    omega
  unfold atI
  rw [e]
  show (xs ++ [v])[xs.length]? = some v
  simp

/-! ### what may be subscripted -/
/-- what stands as an index of a plain subscript -/
def PlainIx (b : Expr) : Prop := ∀ o i, subscripted b false o i = operate [o, i] (getItem o i)
/-- a subscript by values -/
def IxR (X : Cx) (r : R2) : Prop :=
  ∀ (value slice : Expr) (pins : List (Addr × Obj)) (s : Shared) (σ : St) (H : Hp) (x y : V) (v u : Value) (Q : VK), Inv X pins σ H s → RelV x v → RelV y u → r x y H Q →
    subscripted slice false v u = operate [v, u] (getItem v u) → wpAny (model X.prog X.w) X.A (subscriptTail value slice v u) (EP X pins σ Q) X.xe s
/-- a call of a builtin's method by values: the receiver, the arguments -/
def MtR (X : Cx) (id : String) (r : V → List V → Hp → VK → Prop) : Prop :=
  ∀ (pins : List (Addr × Obj)) (s : Shared) (σ : St) (H : Hp) (x : V) (xs : List V) (v : Value) (us : List Value) (Q : VK), Inv X pins σ H s → RelV x v → Vals xs us → r x xs H Q →
    wpAny (model X.prog X.w) X.A (call (.builtin id) (v :: us)) (EP X pins σ Q) X.xe s
section
variable {X : Cx} {a b : Expr} {ta tb : TE} {pos : Pos}
theorem IxR.or {r r' : R2} (h : IxR X r) (h' : IxR X r') : IxR X (fun x y H Q => r x y H Q ∨ r' x y H Q) := by
  intro value slice pins s σ H x y v u Q I rx ry q hs
  rcases q with q | q
  · exact h value slice pins s σ H x y v u Q I rx ry q hs
  · exact h' value slice pins s σ H x y v u Q I rx ry q hs
theorem MtR.or {id : String} {r r' : V → List V → Hp → VK → Prop} (h : MtR X id r) (h' : MtR X id r') : MtR X id (fun x xs H Q => r x xs H Q ∨ r' x xs H Q) := by
  intro pins s σ H x xs v us Q I rx rs q
  rcases q with q | q
  · exact h pins s σ H x xs v us Q I rx rs q
  · exact h' pins s σ H x xs v us Q I rx rs q
/-- a[b] -/
theorem pe_ix {r : R2} (hr : IxR X r) (ha : PE X a ta) (hb : PE X b tb) (hs : PlainIx b) : PE X (.Subscript a b pos) (tOp r ta tb) := by
  intro pins s σ H Q I h
  exact Subscript_ (binT ha hb I h fun v u s2 x y H2 I2 rx ry q => hr a b pins s2 σ H2 x y v u Q I2 rx ry q (hs _ _))

def rIxL (K : PySem.W.Frag) : R2 := fun x y H Q => ∃ p xs i v, x = .ref p ∧ y = .int i ∧ SqL K H p xs ∧ atI xs i = some v ∧ Q v H
def rIxT (K : PySem.W.Frag) : R2 := fun x y H Q => ∃ p xs i v, x = .ref p ∧ y = .int i ∧ SqT K H p xs ∧ atI xs i = some v ∧ Q v H
def rIxS : R2 := fun x y H Q => ∃ z i c, x = .str z ∧ y = .int i ∧ z.length ≤ sizeLine ∧ atI z.cps.toList i = some c ∧ Q (.str ⟨#[c]⟩) H
theorem ix_list : IxR X (rIxL X.K) := by
  intro value slice pins s σ H x y v u Q I rx ry h hs
  obtain ⟨p, xs, i, z, rfl, rfl, hq, he, q⟩ := h
  cases rx
  obtain ⟨t, rfl⟩ := ry
  obtain ⟨its, r, pl, hz⟩ := I.list hq
  obtain ⟨j, h1, h2, h3, h4, h5⟩ := atI_get he
  obtain ⟨w, ew, rw'⟩ := r.get h2
  have hl := r.length
  have hn := line63
  have fin : EP X pins σ Q w s := ⟨z, H, I, rw', q⟩
  by_cases h0 : 0 ≤ i
  · have hj : i.toNat = j := by
      rw [seqIndex_of h0 h5] at h1
      exact Option.some.inj h1
    exact item_listR pl.isList h0 (by omega) (by rw [hj]; simpa using ew) fin hs
  · have hj : (i + (its.toArray.size : Int)).toNat = j := by
      rw [seqIndex_neg (by omega) h4] at h1
      rw [List.size_toArray, ← hl]
      exact Option.some.inj h1
    exact subscriptTail_builtinR (x := w) pl.isList.typeIs slot_list_getitem.lookup
      (wpAny_getItem_list_neg (Q := fun r s' => r = w ∧ EP X pins σ Q r s') pl.isList (by omega) (by rw [List.size_toArray] <;> omega) (by omega) (by rw [hj]; simpa using ew) ⟨rfl, fin⟩) hs
theorem ix_tup : IxR X (rIxT X.K) := by
  intro value slice pins s σ H x y v u Q I rx ry h hs
  obtain ⟨p, xs, i, z, rfl, rfl, hq, he, q⟩ := h
  cases rx
  obtain ⟨t, rfl⟩ := ry
  obtain ⟨its, r, pl, hz⟩ := I.tuple hq
  obtain ⟨j, h1, h2, h3, h4, h5⟩ := atI_get he
  obtain ⟨w, ew, rw'⟩ := r.get h2
  have hl := r.length
  have hn := line63
  have fin : EP X pins σ Q w s := ⟨z, H, I, rw', q⟩
  exact subscriptTail_builtinR (x := w) pl.typeIs slot_tuple_getitem.lookup
    (getItem_tuple (j := j) (Q := fun r s' => r = w ∧ EP X pins σ Q r s') pl (by omega) (by omega) (by rw [List.size_toArray, ← hl]; exact h1) (by simpa using ew) ⟨rfl, fin⟩) hs
theorem ix_str : IxR X rIxS := by
  intro value slice pins s σ H x y v u Q I rx ry h hs
  obtain ⟨z, i, c, rfl, rfl, hz, he, q⟩ := h
  obtain ⟨t, rfl⟩ := rx
  obtain ⟨t', rfl⟩ := ry
  obtain ⟨j, h1, h2, h3, h4, h5⟩ := atI_get he
  have hl : z.cps.toList.length = z.length := by simp [Str.length]
  rw [hl] at h1 h4 h5
  have hn := line63
  exact tail_any (typeIs_str s z t) slot_str_getitem.lookup (getItem_str (c := c) (by
    have e1 : decide (i < -(2 ^ 63 : Int)) = false := decide_eq_false (by omega)
    have e2 : decide (i ≥ 2 ^ 63) = false := decide_eq_false (by omega)
    rw [e1, e2, Bool.or_false]) (by rw [h1]; simpa using h2) ⟨.str ⟨#[c]⟩, H, I.tok _, ⟨_, rfl⟩, q⟩) hs
/-! ### xs[i] = v, any sign -/
theorem Inv.lst {pins : List (Addr × Obj)} {σ : St} {H : Hp} {s : Shared} {p : Addr} {xs : List V} (I : Inv X pins σ H s) (h : H p = some (.lst xs)) :
    ∃ (its : List Value) (n : Nat), Vals xs its ∧ s.heap.get? p = some { cls := .type "list", data := .seq its.toArray n } ∧ xs.length ≤ sizeLine := by
  obtain ⟨z, its, n, r, e⟩ := I.hok p _ h
  exact ⟨its, n, r, e, z⟩
/-! ### slices -/
theorem slice_bounds (lo hi : Option Int) (n : Nat) : (sliceBounds lo hi none n).1 = ((HT.sIx n 0 lo : Nat) : Int) ∧ (sliceBounds lo hi none n).2.1 = ((HT.sIx n n hi : Nat) : Int) ∧ (sliceBounds lo hi none n).2.2 = 1 := by
  refine ⟨?_, ?_, rfl⟩
  · cases lo with
    | none => simp [sliceBounds, HT.sIx]
    | some i =>
      simp only [sliceBounds, HT.sIx, Option.getD_none, show (1 : Int) > 0 by decide, if_true]
      by_cases h : i < 0
      · simp only [h, if_true] <;> omega
      · simp only [h, if_false] <;> omega
  · cases hi with
    | none => simp [sliceBounds, HT.sIx]
    | some i =>
      simp only [sliceBounds, HT.sIx, Option.getD_none, show (1 : Int) > 0 by decide, if_true]
      by_cases h : i < 0
      · simp only [h, if_true] <;> omega
      · simp only [h, if_false] <;> omega
theorem slicePick_cut (its : List Value) (lo hi : Option Int) : slicePick its.toArray lo hi none = ((its.drop (HT.sIx its.length 0 lo)).take (HT.sIx its.length its.length hi - HT.sIx its.length 0 lo)).toArray := by
  obtain ⟨h1, h2, h3⟩ := slice_bounds lo hi its.toArray.size
  unfold slicePick
  rw [h1, h2, h3]
  simp only [sliceRange_one, pick_run, List.size_toArray] <;> rfl
/-- xs[lo:hi] of a list: a new list -/
def rSlL (K : PySem.W.Frag) : V → Option Int → Option Int → Hp → VK → Prop := fun x lo hi H Q => ∃ a xs, x = .ref a ∧ SqL K H a xs ∧ ∀ p, H p = none → Q (.ref p) (upd H p (.lst (cutV xs lo hi)))
theorem sl_list : SlR X (rSlL X.K) := by
  intro pins s σ H x v vl vu lo hi sl Q I rx hs pl pu h
  obtain ⟨a, xs, rfl, hx, q⟩ := h
  cases rx
  obtain ⟨its, r, ht, hz⟩ := I.list hx
  have hlen := r.length
  refine ⟨"list", _, slot_list_getitem.lookup, ht.isList.typeIs, ?_⟩
  refine wpAny_getItem_list_slice ht.isList hs pl pu .none (by simp) ?_ (by rw [List.size_toArray] <;> omega)
  rw [slicePick_cut, ← hlen]
  refine ⟨.ref s.heap.objs.size, _, I.laid (t' := s.toks) (o := .lst (cutV xs lo hi)) (fun b ob q => Heap.get?_push_of_some _ q) (Nat.le_refl _) ?_, rfl, q _ (I.hok.fresh (Nat.le_refl _))⟩
  exact ⟨Nat.le_trans (cutV_length xs lo hi) hz, _, 0, (r.drop (HT.sIx xs.length 0 lo)).take (HT.sIx xs.length xs.length hi - HT.sIx xs.length 0 lo), Heap.get?_push_size _ rfl⟩

/-! ### in, not in: flat items -/
/-! ### len, list(x), tuple(x) of any list or tuple that is read -/
theorem call_len_seq : CallR X (.builtin "len") (fun xs H Q => ∃ p ys, xs = [.ref p] ∧ (SqL X.K H p ys ∨ SqT X.K H p ys) ∧ Q (.int ys.length) H) := by
  intro pins s σ H xs us Q I r h
  obtain ⟨p, ys, rfl, hq, q⟩ := h
  obtain ⟨u, rfl, rx⟩ := vals1 r
  cases rx
  have hn := line63
  rcases hq with hq | hq
  · obtain ⟨its, r', pl, hz⟩ := I.list hq
    have hlen := r'.length
    exact Calls.call_len_list pl.isList (by simp only [List.size_toArray] <;> omega) ⟨.int ys.length, H, I.tok _, ⟨s.toks + 1, by rw [List.size_toArray, hlen]⟩, q⟩
  · obtain ⟨its, r', pl, hz⟩ := I.tuple hq
    have hlen := r'.length
    exact len_tuple pl (by simp only [List.size_toArray] <;> omega) ⟨.int ys.length, H, I.tok _, ⟨s.toks + 1, by rw [List.size_toArray, hlen]⟩, q⟩
theorem call_len_str : CallR X (.builtin "len") (fun xs H Q => ∃ z, xs = [.str z] ∧ z.length ≤ sizeLine ∧ Q (.int z.length) H) := by
  intro pins s σ H xs us Q I r h
  obtain ⟨z, rfl, hz, q⟩ := h
  obtain ⟨u, rfl, t, rfl⟩ := vals1 r
  have hn := line63
  exact len_str (by omega) ⟨.int z.length, H, I.tok _, ⟨_, rfl⟩, q⟩
theorem CallR.or {f : Value} {r r' : List V → Hp → VK → Prop} (h : CallR X f r) (h' : CallR X f r') : CallR X f (fun xs H Q => r xs H Q ∨ r' xs H Q) := by
  intro pins s σ H xs us Q I rs q
  rcases q with q | q
  · exact h pins s σ H xs us Q I rs q
  · exact h' pins s σ H xs us Q I rs q
theorem call_list_of : CallR X (.type "list") (fun xs H Q => ∃ p ys, xs = [.ref p] ∧ (SqL X.K H p ys ∨ SqT X.K H p ys) ∧ ∀ l, H l = none → Q (.ref l) (upd H l (.lst ys))) := by
  intro pins s σ H xs us Q I r h
  obtain ⟨p, ys, rfl, hq, q⟩ := h
  obtain ⟨u, rfl, rx⟩ := vals1 r
  cases rx
  have fin : ∀ (its : List Value), Vals ys its → ys.length ≤ sizeLine → ∀ (h' : Heap) (c' : Nat), (∀ b o', s.heap.get? b = some o' → h'.get? b = some o') →
      h'.get? s.heap.objs.size = some { cls := .type "list", dict := none, data := .seq its.toArray c', slots := #[] } → EP X pins σ Q (.ref s.heap.objs.size) { s with heap := h' } := fun its r' hz h' c' kp e =>
    ⟨.ref s.heap.objs.size, _, I.laid (t' := s.toks) kp (Nat.le_refl _) (show ObjOk X.prog X.w _ h' _ (.lst ys) from ⟨hz, its, c', r', e⟩), rfl, q _ (I.hok.fresh (Nat.le_refl _))⟩
  rcases hq with hq | hq
  · obtain ⟨its, r', pl, hz⟩ := I.list hq
    have hlen := r'.length
    obtain ⟨o, ho, hc, n, hd⟩ := pl.isList
    exact call_list_seq p (.inl rfl) ho hc hd (fun h' c' kp e => fin its r' hz h' c' kp e) (by simp only [List.size_toArray] <;> omega)
  · obtain ⟨its, r', pl, hz⟩ := I.tuple hq
    have hlen := r'.length
    obtain ⟨o, ho, hc, n, hd⟩ := pl
    exact call_list_seq p (.inr rfl) ho hc hd (fun h' c' kp e => fin its r' hz h' c' kp e) (by simp only [List.size_toArray] <;> omega)
/-! ### the call of a builtin's method: o.m(..) -/
/-- the value is of that builtin type -/
def tyV (K : PySem.W.Frag) (T : String) (x : V) (H : Hp) : Prop := match x with
  | .str _ => T = "str"
  | .int _ => T = "int"
  | .ref p => (T = "list" ∧ ∃ xs, SqL K H p xs) ∨ (T = "tuple" ∧ ∃ o, K.lookup p = some o ∧ o.cls = .type "tuple" ∧ o.dict = none) ∨
      (T = "dict" ∧ ((∃ kvs, H p = some (.dK kvs)) ∨ ∃ kvs, H p = some (.dT kvs))) ∨ (T = "set" ∧ ∃ S n, H p = some (.set S n))
  | _ => False
theorem tyV_is {pins : List (Addr × Obj)} {σ : St} {H : Hp} {s : Shared} {T : String} {x : V} {v : Value} (I : Inv X pins σ H s) (r : RelV x v) (ty : tyV X.K T x H) :
    s.TypeIs v T ∧ ∀ a, v = .ref a → ∃ ob, s.heap.get? a = some ob ∧ ob.dict = none := by
  cases x with
  | str z =>
    obtain ⟨t, rfl⟩ := r
    cases (show T = "str" from ty)
    exact ⟨typeIs_str s z t, fun _ e => nomatch e⟩
  | int i =>
    obtain ⟨t, rfl⟩ := r
    cases (show T = "int" from ty)
    exact ⟨typeIs_int s i t, fun _ e => nomatch e⟩
  | ref p =>
    cases r
    rcases ty with ⟨rfl, xs, hq⟩ | ⟨rfl, o, hk, hc, hd⟩ | ⟨rfl, hk⟩ | ⟨rfl, S, n, hk⟩
    · obtain ⟨its, _, pl, _⟩ := I.list hq
      refine ⟨pl.isList.typeIs, fun a e => ?_⟩
      cases e
      obtain ⟨o, n, e, c, hd, _⟩ := pl
      exact ⟨o, e, hd⟩
    · refine ⟨⟨o, I.kIn p o hk, hc⟩, fun a e => ?_⟩
      cases e
      exact ⟨o, I.kIn _ o hk, hd⟩
    · have z : ∃ o, s.heap.get? p = some o ∧ o.ExactDict := by
        rcases hk with ⟨kvs, hk⟩ | ⟨kvs, hk⟩
        · obtain ⟨_, _, _, _, o, _, _, e, ex, _⟩ := I.hok p _ hk
          exact ⟨o, e, ex⟩
        · obtain ⟨_, _, _, _, o, _, _, e, ex, _⟩ := I.hok p _ hk
          exact ⟨o, e, ex⟩
      obtain ⟨o, e, ex⟩ := z
      refine ⟨⟨o, e, ex.1⟩, fun a e2 => ?_⟩
      cases e2
      exact ⟨o, e, ex.2.1⟩
    · obtain ⟨o, _, _, _, e, ex, _⟩ := I.hok p _ hk
      refine ⟨⟨o, e, ex.1⟩, fun a e2 => ?_⟩
      cases e2
      exact ⟨o, e, ex.2.1⟩
  | _ => exact False.elim ty
def tBM (K : PySem.W.Frag) (T : String) (r : V → List V → Hp → VK → Prop) (to : TE) (t : TA) : TE := fun σ H Q => to σ H fun x H1 => tyV K T x H1 ∧ t σ H1 fun xs H2 => r x xs H2 Q
variable {o e : Expr} {es : List Expr} {to : TE} {t : TA} {name : Str} {apos cpos : Pos} {T id : String} {r : V → List V → Hp → VK → Prop}
theorem pe_bm (pa : PlainAttrs T) (slot : Slot T name id) (hty : typeOf (.builtin id) = pure (.type "method_descriptor")) (hm : MtR X id r) (ho : PE X o to) (ha : PA X (e :: es) t)
    (hbase : attributeBase o name X.env (eval o X.env) = eval o X.env := by rfl)
    (hfew : ((backTo cpos (starEach (e :: es) X.env)).all (fun x => !x.1) && (backToKw cpos (keywordEach [] X.env)).all (fun x => x.1.isSome)
      && decide ((e :: es).length + ([] : List Keyword).length + (if ([] : List Keyword).isEmpty then 0 else 1) < 30)) = true := by rfl)
    (hline : (apos.endLine == cpos.line) = true := by rfl) (hs : starEach (e :: es) X.env = (false, eval e X.env) :: starEach es X.env := by rfl) (hplain : (backTo cpos (starEach es X.env)).any (·.1) = false := by rfl) :
    PE X (.Call (.Attribute o name apos) (e :: es) [] cpos) (tBM X.K T r to t) := by
  intro pins s σ H Q I h
  refine wpAny_Call_method_late hbase hfew hline rfl (thn (ho pins s σ H _ I h) fun v s1 ⟨x, H1, I1, r1, ty, q1⟩ => ?_)
  obtain ⟨h1, h2⟩ := tyV_is I1 r1 ty
  refine ⟨T, id, pa, slot, hty, h1, h2, ?_⟩
  have hA := ha cpos pins s1 σ H1 _ I1 q1
  rw [hs] at hA ⊢
  refine Calls.callWith_builtin (by show (false || (backTo cpos (starEach es X.env)).any (·.1)) = false; rw [hplain] <;> rfl) (Calls.evalArgs_plain ?_)
  exact thn hA fun us s2 ⟨vs, H2, I2, r2, q2⟩ => hm pins s2 σ H2 x vs v us Q I2 r1 r2 q2
/- xs.append(e), list.index on a module's tuple .. are MtR facts of 06m -/
end
end L2

namespace L2
open PySem PySem.Spec PyProof.Rows

def MtM (X : Cx) (id : String) (r : V → List V → Hp → VK → Prop) : Prop :=
  ∀ (pins : List (Addr × Obj)) (s : Shared) (σ : St) (H : Hp) (x : V) (xs : List V) (v : Value) (us : List Value) (Q : VK), Inv X pins σ H s → RelV x v → Vals xs us → r x xs H Q →
    wpAny (model X.prog X.w) X.A (call (.builtin id) (v :: us)) (EP X pins σ Q) X.xe s

/-! ### lists of values -/
theorem Vals.one : ∀ {x : V} {us : List Value}, Vals [x] us → ∃ u, us = [u] ∧ RelV x u
  | _, _, .cons r .nil => ⟨_, rfl, r⟩
theorem Vals.two : ∀ {x y : V} {us : List Value}, Vals [x, y] us → ∃ u v, us = [u, v] ∧ RelV x u ∧ RelV y v
  | _, _, _, .cons r (.cons q .nil) => ⟨_, _, rfl, r, q⟩
theorem Vals.zero : ∀ {us : List Value}, Vals [] us → us = []
  | _, .nil => rfl
theorem Vals.dropLast {xs : List V} {us : List Value} (h : Vals xs us) : Vals xs.dropLast us.dropLast := by
  induction h with
  | nil => exact .nil
  | cons r t ih =>
    cases t with
    | nil => exact .nil
    | cons q t' => exact .cons r ih
theorem Vals.eraseIdx : ∀ {xs : List V} {us : List Value} (i : Nat), Vals xs us → Vals (xs.eraseIdx i) (us.eraseIdx i)
  | _, _, _, .nil => .nil
  | _, _, 0, .cons _ t => t
  | _, _, i + 1, .cons r t => .cons r (Vals.eraseIdx i t)
theorem Vals.reverse {xs : List V} {us : List Value} (h : Vals xs us) : Vals xs.reverse us.reverse := by
  induction h with
  | nil => exact .nil
  | cons r t ih => rw [List.reverse_cons, List.reverse_cons]; exact Vals.append ih (.cons r .nil)
theorem Vals.rep {xs : List V} {us : List Value} (h : Vals xs us) : ∀ k : Nat, Vals (List.replicate k xs).flatten (List.replicate k us).flatten
  | 0 => .nil
  | k + 1 => by
    rw [List.replicate_succ, List.replicate_succ, List.flatten_cons, List.flatten_cons]
    exact Vals.append h (Vals.rep h k)
section
variable {X : Cx} {pins : List (Addr × Obj)} {σ : St} {H : Hp} {s : Shared} {l b : Addr} {xs ys zs : List V}

/-! ### the two steps: a tracked list is rewritten, a new list is laid -/
theorem Inv.lset {its its' : List Value} {n : Nat} {f : Array Value → Array Value} {t' : Nat} (I : Inv X pins σ H s) (hH : H l = some (.lst xs))
    (e : s.heap.get? l = some { cls := .type "list", data := .seq its.toArray n }) (hf : f its.toArray = its'.toArray) (hv : Vals ys its') (hz : ys.length ≤ sizeLine) :
    Inv X pins σ (upd H l (.lst ys)) { s with heap := s.heap.update l (Obj.mapSeq f), toks := t' } := by
  have q := PySem.IsL.update e f
  rw [hf] at q
  refine I.write (x := l) (e := l) (by rw [hH]; exact trivial) (.inl rfl) (fun b' u hb hu => (Heap.get?_update_other s.heap (Obj.mapSeq f) (Ne.symm hb)).trans hu) ⟨_, q⟩ ?_
  exact ⟨hz, its', _, hv, q⟩
theorem Inv.fresh (I : Inv X pins σ H s) : H s.heap.objs.size = none := I.hok.fresh (Nat.le_refl _)
theorem Inv.lstM (I : Inv X pins σ H s) (hH : H l = some (.lst xs)) : xs.length ≤ sizeLine ∧ ∃ (its : List Value) (n : Nat), Vals xs its ∧ xs.length = its.length ∧ s.heap.get? l = some { cls := .type "list", data := .seq its.toArray n } := by
  obtain ⟨z, its, n, r, e⟩ := I.hok l _ hH
  exact ⟨z, its, n, r, r.length, e⟩

theorem notLongL {n : Nat} (h : n ≤ sizeLine) : Builtin.List.listTooLong n = false := by
  unfold Builtin.List.listTooLong
  exact decide_eq_false (by omega)
end

section
variable {X : Cx}

/-! ### methods -/
def rAppend : V → List V → Hp → VK → Prop := fun x vs H Q => ∃ l xs y, x = .ref l ∧ vs = [y] ∧ H l = some (.lst xs) ∧ xs.length < sizeLine ∧ Q .non (upd H l (.lst (xs ++ [y])))
theorem mt_append : MtM X "list.append" rAppend := by
  intro pins s σ H x vs v us Q I rx rv h
  obtain ⟨l, xs, y, rfl, rfl, hH, hz, q⟩ := h
  cases rx
  obtain ⟨u, rfl, ru⟩ := rv.one
  obtain ⟨z, its, n, r, hl, e⟩ := I.lstM hH
  refine call_meets F.slot_list_append ⟨_, e, rfl⟩ F.entry_list_append (F.args_list_append_2 _ _) (PySem.list_append l its.toArray n u (by rw [List.size_toArray]; omega)) ⟨e, ?_⟩
  refine ⟨.non, _, I.lset (its' := its ++ [u]) hH e (by simp) (r.append (.cons ru .nil)) ?_, rfl, q⟩
  rw [List.length_append, List.length_singleton]
  omega

def rExtend : V → List V → Hp → VK → Prop := fun x vs H Q => ∃ l b xs zs, x = .ref l ∧ vs = [.ref b] ∧ H l = some (.lst xs) ∧ H b = some (.lst zs) ∧ xs.length + zs.length ≤ sizeLine ∧ Q .non (upd H l (.lst (xs ++ zs)))
theorem mt_extend : MtM X "list.extend" rExtend := by
  intro pins s σ H x vs v us Q I rx rv h
  obtain ⟨l, b, xs, zs, rfl, rfl, hH, hB, hz, q⟩ := h
  cases rx
  obtain ⟨u, rfl, ru⟩ := rv.one
  cases ru
  obtain ⟨z, its, n, r, hl, e⟩ := I.lstM hH
  obtain ⟨z2, its2, n2, r2, hl2, e2⟩ := I.lstM hB
  have hsz : its.toArray.size + its2.toArray.size ≤ sizeLine := by rw [List.size_toArray, List.size_toArray]; omega
  have hlong : ¬ (!its.toArray.isEmpty && Builtin.List.listTooLong (its.toArray.size + its2.toArray.size)) = true := by
    rw [notLongL hsz, Bool.and_false]
    exact Bool.false_ne_true
  refine call_meets F.slot_list_extend ⟨_, e, rfl⟩ F.entry_list_extend (F.args_list_extend_2 _ _)
    (AutoSeq1.list_extend_list_list_0 l its.toArray n b its2.toArray n2 hlong (by rw [List.size_toArray]; omega) (by omega)) ⟨e, e2, ?_⟩
  refine ⟨.non, _, I.lset (its' := its ++ its2) hH e (by simp) (r.append r2) ?_, rfl, q⟩
  rw [List.length_append]
  omega

/-! ### list + list, list += list, list * int -/
/-! ### del xs[i] -/
end

/-! ### xs[a:b] = ys -/
section
variable {prog : Program} {w : World} {A : Around} {E : Value → Shared → Prop} {s : Shared}
end

section
variable {X : Cx}
end
end L2

namespace L2
open PySem PySem.Spec PyProof.Rows

theorem Vals.ints : ∀ {ns : List Int} {us : List Value}, Vals (ns.map V.int) us → IntsAre us ns
  | [], us, h => by
    rw [List.map_nil] at h
    cases h
    exact IntsAre.nil
  | n :: ns, us, h => by
    rw [List.map_cons] at h
    cases h with
    | cons r t =>
      obtain ⟨k, rfl⟩ := r
      exact IntsAre.cons n k (Vals.ints t)
theorem Vals.strs : ∀ {xs : List Str} {us : List Value}, Vals (xs.map V.str) us → StrsAre us xs
  | [], us, h => by
    rw [List.map_nil] at h
    cases h
    exact StrsAre.nil
  | x :: xs, us, h => by
    rw [List.map_cons] at h
    cases h with
    | cons r t =>
      obtain ⟨k, rfl⟩ := r
      exact StrsAre.cons x k (Vals.strs t)
theorem Vals.bls : ∀ {bs : List Bool} {us : List Value}, Vals (bs.map V.bl) us → us = bs.map Value.bool
  | [], us, h => by
    rw [List.map_nil] at h
    cases h
    rfl
  | b :: bs, us, h => by
    rw [List.map_cons] at h
    cases h with
    | cons r t =>
      cases r
      rw [Vals.bls t, List.map_cons]
theorem Vals.ref1 {a : Addr} {us : List Value} (r : Vals [V.ref a] us) : us = [Value.ref a] := by
  cases r with
  | cons r t =>
    cases t
    cases r
    rfl
/-! ### the library's walks over a list of ints, kept objects alone -/
section
variable {prog : Program} {w : World} {A : Around} {E : Value → Shared → Prop} {s : Shared} {l : Addr} {its : List Value} {ns : List Int} {Q : Value → Shared → Prop}
end

/-! ### the calls, by values (CallR of 03t; MtR of 06l) -/
section
variable {X : Cx}
/-! sorted, sort (fewer than 64 items: the library's own bound) -/
end

/-! ### list.index, flat items -/
section
variable {X : Cx}
end

/-! ### type(x) of an own instance; is, is not of a module's class -/
section
variable {X : Cx}
end

/-! ### any(xs), all(xs) of a list of bools -/
theorem iter_any {prog : Program} {w : World} {A : Around} {E : Value → Shared → Prop} {s : Shared} {l : Addr} {items : Array Value} {Q : Value → Shared → Prop} (hl : s.heap.IsList l items)
    (h : ∀ s₂ : Shared, s₂ = { s with heap := s.heap.push { cls := .type "list_iterator", data := .fields #[.ref l, .int 0 0] } } →
      (s₂.heap.IsListIter s.heap.objs.size l 0 ∧ s₂.heap.IsList l items) → l ≠ s.heap.objs.size → Q (.ref s.heap.objs.size) s₂) : wpAny (model prog w) A (pyIter (.ref l)) Q E s := by
  have hlt : l < s.heap.objs.size := by obtain ⟨_, e, _⟩ := hl; exact Heap.lt_size e
  exact wpAny_pyIter_list hl (h _ rfl ⟨⟨_, Heap.get?_push_size _ rfl, rfl, rfl⟩, hl.push _⟩ (Nat.ne_of_lt hlt))
theorem truth_bools {prog : Program} {w : World} {A : Around} {bs : List Bool} {its : List Value} (e : its = bs.map Value.bool) :
    TruthOf prog w A (fun i v => its.toArray[i]? = some v) (fun i => bs.getD i false) := fun i v s Q E hv hq => by
  have hv' : its[i]? = some v := by simpa using hv
  rw [e, List.getElem?_map] at hv'
  obtain ⟨b, hb, rfl⟩ := Option.map_eq_some_iff.mp hv'
  have hg : bs.getD i false = b := by rw [List.getD_eq_getElem?_getD, hb] <;> rfl
  have hq' : Q (bs.getD i false) s := hq
  rw [hg] at hq'
  exact wpAny_truthy_bool hq'
theorem any_range : ∀ bs : List Bool, (List.range bs.length).any (fun i => bs.getD i false) = bs.any id
  | [] => rfl
  | b :: bs => by
    rw [List.length_cons, List.range_succ_eq_map, List.any_cons, List.any_map, List.any_cons, ← any_range bs]
    all_goals rfl
theorem all_range : ∀ bs : List Bool, (List.range bs.length).all (fun i => bs.getD i false) = bs.all id
  | [] => rfl
  | b :: bs => by
    rw [List.length_cons, List.range_succ_eq_map, List.all_cons, List.all_map, List.all_cons, ← all_range bs]
    all_goals rfl
section
variable {X : Cx}
def rAny (K : PySem.W.Frag) : List V → Hp → VK → Prop := fun vs H Q => ∃ (a : Addr) (bs : List Bool), vs = [V.ref a] ∧ SqL K H a (bs.map V.bl) ∧ Q (.bl (bs.any id)) H
def rAll (K : PySem.W.Frag) : List V → Hp → VK → Prop := fun vs H Q => ∃ (a : Addr) (bs : List Bool), vs = [V.ref a] ∧ SqL K H a (bs.map V.bl) ∧ Q (.bl (bs.all id)) H
theorem cr_any (hc : X.calm = true) : CallR X (.builtin "any") (rAny X.K) := by
  intro pins s σ H vs us Q I r h
  obtain ⟨a, bs, rfl, hs, q⟩ := h
  obtain ⟨its, rv, hl, _⟩ := I.list hs
  rw [Vals.ref1 r]
  have hb := rv.bls
  refine call_any_walk (iter_any hl.isList fun s₂ e2 st hne => ?_)
  subst e2
  refine ⟨_, _, _, _, _, _, _, rfl, Walks.list (A := X.A.in1) (I.ok.hd hc) _ a hne its.toArray, st, truth_bools hb, fun h' tk hk => ?_⟩
  refine ⟨.bl _, H, I.kept fun b o eo => hk b o (fun hmem => ?_) (Heap.get?_push_of_some _ eo), ?_, q⟩
  · rcases List.mem_cons.mp hmem with e1 | hmem
    · exact absurd (e1 ▸ Heap.lt_size eo) (Nat.lt_irrefl _)
    · cases hmem
  · show Value.bool _ = Value.bool _
    rw [← any_range, hb, List.size_toArray, List.length_map]
theorem cr_all (hc : X.calm = true) : CallR X (.builtin "all") (rAll X.K) := by
  intro pins s σ H vs us Q I r h
  obtain ⟨a, bs, rfl, hs, q⟩ := h
  obtain ⟨its, rv, hl, _⟩ := I.list hs
  rw [Vals.ref1 r]
  have hb := rv.bls
  refine call_all_walk (iter_any hl.isList fun s₂ e2 st hne => ?_)
  subst e2
  refine ⟨_, _, _, _, _, _, _, rfl, Walks.list (A := X.A.in1) (I.ok.hd hc) _ a hne its.toArray, st, truth_bools hb, fun h' tk hk => ?_⟩
  refine ⟨.bl _, H, I.kept fun b o eo => hk b o (fun hmem => ?_) (Heap.get?_push_of_some _ eo), ?_, q⟩
  · rcases List.mem_cons.mp hmem with e1 | hmem
    · exact absurd (e1 ▸ Heap.lt_size eo) (Nat.lt_irrefl _)
    · cases hmem
  · show Value.bool _ = Value.bool _
    rw [← all_range, hb, List.size_toArray, List.length_map]
end

/-! ### == and != of data at any depth: none, bools, ints, texts, lists, tuples -/
mutual
inductive Dp (K : PySem.W.Frag) (H : Hp) : V → PyData → Prop
  | non : Dp K H .non .none
  | bl (b : Bool) : Dp K H (.bl b) (.bool b)
  | int (i : Int) : Dp K H (.int i) (.int i)
  | str (x : Str) : Dp K H (.str x) (.str x)
  | lst {a : Addr} {xs : List V} {ds : List PyData} : SqL K H a xs → DpAll K H xs ds → Dp K H (.ref a) (.list ds)
  | tup {a : Addr} {xs : List V} {ds : List PyData} : SqT K H a xs → DpAll K H xs ds → Dp K H (.ref a) (.tuple ds)
inductive DpAll (K : PySem.W.Frag) (H : Hp) : List V → List PyData → Prop
  | nil : DpAll K H [] []
  | cons {v : V} {vs : List V} {d : PyData} {ds : List PyData} : Dp K H v d → DpAll K H vs ds → DpAll K H (v :: vs) (d :: ds)
end
section
variable {X : Cx} {pins : List (Addr × Obj)} {σ : St} {H : Hp} {s : Shared}
mutual
theorem Dp.reads (I : Inv X pins σ H s) : ∀ (d : PyData) (v : V) (u : Value), Dp X.K H v d → RelV v u → ∃ as, Reads s.heap u d as
  | .none, _, _, h, r => by
    cases h
    cases r
    exact ⟨_, Reads.none⟩
  | .bool b, _, _, h, r => by
    cases h
    cases r
    exact ⟨_, Reads.bool b⟩
  | .int i, _, _, h, r => by
    cases h
    obtain ⟨t, rfl⟩ := r
    exact ⟨_, Reads.int i t⟩
  | .str x, _, _, h, r => by
    cases h
    obtain ⟨t, rfl⟩ := r
    exact ⟨_, Reads.str x t⟩
  | .list ds, _, _, h, r => by
    cases h with
    | lst hs ha =>
      cases r
      obtain ⟨its, rv, ⟨o, n, ho, hc, _, hd⟩, _⟩ := I.list hs
      obtain ⟨as, hr⟩ := Dp.readsAll I ds _ its ha rv
      exact ⟨_, Reads.list ho hc hd hr⟩
  | .tuple ds, _, _, h, r => by
    cases h with
    | tup hs ha =>
      cases r
      obtain ⟨its, rv, ⟨o, ho, hc, n, hd⟩, _⟩ := I.tuple hs
      obtain ⟨as, hr⟩ := Dp.readsAll I ds _ its ha rv
      exact ⟨_, Reads.tuple ho hc hd hr⟩
  | .dict _, _, _, h, _ => by cases h
theorem Dp.readsAll (I : Inv X pins σ H s) : ∀ (ds : List PyData) (vs : List V) (us : List Value), DpAll X.K H vs ds → Vals vs us → ∃ as, ReadsAll s.heap us ds as
  | [], _, _, h, r => by
    cases h
    cases r
    exact ⟨_, ReadsAll.nil⟩
  | d :: ds, _, _, h, r => by
    cases h with
    | cons h1 h2 =>
      cases r with
      | cons r1 r2 =>
        obtain ⟨as, q1⟩ := Dp.reads I d _ _ h1 r1
        obtain ⟨bs, q2⟩ := Dp.readsAll I ds _ _ h2 r2
        exact ⟨_, ReadsAll.cons q1 q2⟩
end
end
section
variable {X : Cx}
def rEqD (K : PySem.W.Frag) : R2 := fun x y H Q => ∃ d e, Dp K H x d ∧ Dp K H y e ∧ SeqAt.shaped d = true ∧ SeqAt.shaped e = true ∧ Q (.bl (PyData.eqv d e)) H
def rNeD (K : PySem.W.Frag) : R2 := fun x y H Q => ∃ d e, Dp K H x d ∧ Dp K H y e ∧ SeqAt.shaped d = true ∧ SeqAt.shaped e = true ∧ Q (.bl (!PyData.eqv d e)) H
theorem op_eqD (hu : X.A.units + 64 < cLine) : OpR X (compareOp .Eq) (rEqD X.K) := by
  intro pins s σ H x y v u Q I rx ry h
  obtain ⟨d, e, hd, he, sd, se, q⟩ := h
  obtain ⟨as, r1⟩ := Dp.reads I d x v hd rx
  obtain ⟨bs, r2⟩ := Dp.reads I e y u he ry
  exact SeqAt.compareEq_shaped r1 r2 sd se hu ⟨.bl _, H, I, rfl, q⟩
theorem op_neD (hu : X.A.units + 64 < cLine) : OpR X (compareOp .NotEq) (rNeD X.K) := by
  intro pins s σ H x y v u Q I rx ry h
  obtain ⟨d, e, hd, he, sd, se, q⟩ := h
  obtain ⟨as, r1⟩ := Dp.reads I d x v hd rx
  obtain ⟨bs, r2⟩ := Dp.reads I e y u he ry
  exact SeqAt.compareNe_shaped r1 r2 sd se hu ⟨.bl _, H, I, rfl, q⟩
end
end L2

namespace L2
open PySem PySem.Spec PyProof.Rows
abbrev CellAt (h : Heap) (c : Addr) (v : Option Value) : Prop := h.IsCell c v
def relS (scope sc : Scope) : Scope :=
  { scope with names := scope.names.map fun (n, k) => if (k == .free && sc.kind == .function && sc.names.lookup n == some .cell) then (n, .cell) else (n, k) }

def cloFrom (cells : List (Str × Addr)) : List (Str × NameKind) → List (Str × Addr) → List (Str × Addr)
  | [], acc => acc
  | (n, k) :: r, acc => if k == .free then cloFrom cells r ((n, (cells.lookup n).getD 0) :: acc) else cloFrom cells r acc

theorem closure_loop (env : Env) (f : Str × NameKind → List (Str × Addr) → Sem (ForInStep (List (Str × Addr))))
    (hf : ∀ n k c, f (n, k) c = if k == .free then (do let a ← cellOf env n; pure (.yield ((n, a) :: c))) else pure (.yield c)) :
    ∀ (names : List (Str × NameKind)) (acc : List (Str × Addr)), (∀ y ∈ names, y.2 = .free → ∃ c, env.cells.lookup y.1 = some c) → forIn names acc f = pure (cloFrom env.cells names acc)
  | [], acc, _ => by rw [List.forIn_nil]; rfl
  | (n, k) :: r, acc, h => by
    rw [List.forIn_cons, hf]
    have ih := fun acc => closure_loop env f hf r acc fun y hy => h y (List.mem_cons_of_mem _ hy)
    unfold cloFrom
    by_cases hk : (k == NameKind.free) = true
    · rw [if_pos hk, if_pos hk]
      obtain ⟨c, hc⟩ := h (n, k) List.mem_cons_self (by simpa using hk)
      have e : cellOf env n = pure c := by unfold cellOf; rw [hc]
      rw [e]
      have e2 : (env.cells.lookup n).getD 0 = c := by rw [hc]; rfl
      rw [e2]
      exact ih _
    · rw [if_neg hk, if_neg hk]
      exact ih _
theorem closure_ok {scope : Scope} {env : Env} (h : ∀ y ∈ scope.names, y.2 = .free → ∃ c, env.cells.lookup y.1 = some c) : closureFor scope env = pure (cloFrom env.cells scope.names []) := by
  simp only [closureFor]
  rw [closure_loop env _ (fun n k c => rfl) scope.names [] h]
  rfl

theorem mem_lookup {α : Type} : ∀ {l : List (Str × α)} {n : Str} {c : α}, (n, c) ∈ l → ∃ c', l.lookup n = some c'
  | (k, v) :: r, n, c, h => by
    rw [List.lookup_cons]
    cases hb : n == k with
    | true => exact ⟨_, rfl⟩
    | false =>
      rcases List.mem_cons.mp h with e | h
      · cases e; simp at hb
      · exact mem_lookup h

theorem cloFrom_mem {cells : List (Str × Addr)} : ∀ {names : List (Str × NameKind)} {acc : List (Str × Addr)} {n : Str} {c : Addr}, (n, c) ∈ cloFrom cells names acc → (n, c) ∈ acc ∨ ((n, .free) ∈ names ∧ c = (cells.lookup n).getD 0)
  | [], _, _, _, h => .inl h
  | (m, k) :: r, acc, n, c, h => by
    unfold cloFrom at h
    split at h
    · rename_i hk
      have hk : k = .free := by simpa using hk
      rcases cloFrom_mem h with h | ⟨h1, h2⟩
      · rcases List.mem_cons.mp h with e | h
        · cases e; exact .inr ⟨hk ▸ List.mem_cons_self, rfl⟩
        · exact .inl h
      · exact .inr ⟨List.mem_cons_of_mem _ h1, h2⟩
    · rcases cloFrom_mem h with h | ⟨h1, h2⟩
      · exact .inl h
      · exact .inr ⟨List.mem_cons_of_mem _ h1, h2⟩
theorem cloFrom_acc {cells : List (Str × Addr)} : ∀ {names : List (Str × NameKind)} {acc : List (Str × Addr)} {p : Str × Addr}, p ∈ acc → p ∈ cloFrom cells names acc
  | [], _, _, h => h
  | (m, k) :: r, acc, p, h => by
    unfold cloFrom
    split
    · exact cloFrom_acc (List.mem_cons_of_mem _ h)
    · exact cloFrom_acc h
theorem cloFrom_has {cells : List (Str × Addr)} : ∀ {names : List (Str × NameKind)} {acc : List (Str × Addr)} {n : Str}, (n, .free) ∈ names → (n, (cells.lookup n).getD 0) ∈ cloFrom cells names acc
  | (m, k) :: r, acc, n, h => by
    unfold cloFrom
    rcases List.mem_cons.mp h with e | h
    · cases e
      exact cloFrom_acc List.mem_cons_self
    · split
      · exact cloFrom_has h
      · exact cloFrom_has h

theorem cells_mem : ∀ {names : List (Str × NameKind)} {h : Heap} {acc : List (Str × Addr)} {x : Str} {c : Addr}, (x, c) ∈ cellsFrom h.objs.size names acc →
    (x, c) ∈ acc ∨ ((x, .cell) ∈ names ∧ h.objs.size ≤ c ∧ CellAt (pushCells h names) c none)
  | [], _, _, _, _, h => .inl h
  | (n, k) :: r, h, acc, x, c, hm => by
    unfold cellsFrom at hm
    unfold pushCells
    split at hm
    · rename_i hk
      rw [if_pos hk]
      have hk : k = .cell := by simpa using hk
      rw [← Heap.size_push h { cls := .type "cell", data := .cell none }] at hm
      rcases cells_mem hm with hm | ⟨h1, h2, h3⟩
      · rcases List.mem_cons.mp hm with e | hm
        · cases e
          exact .inr ⟨hk ▸ List.mem_cons_self, Nat.le_refl _, _, pushCells_keeps r _ _ _ (Heap.get?_push_size _ rfl), rfl⟩
        · exact .inl hm
      · rw [Heap.size_push] at h2
        exact .inr ⟨List.mem_cons_of_mem _ h1, Nat.le_of_succ_le h2, h3⟩
    · rename_i hk
      rw [if_neg hk]
      rcases cells_mem hm with hm | ⟨h1, h2, h3⟩
      · exact .inl hm
      · exact .inr ⟨List.mem_cons_of_mem _ h1, h2, h3⟩
theorem cells_acc : ∀ {names : List (Str × NameKind)} {n : Nat} {acc : List (Str × Addr)} {p : Str × Addr}, p ∈ acc → p ∈ cellsFrom n names acc
  | [], _, _, _, h => h
  | (m, k) :: r, n, acc, p, h => by
    unfold cellsFrom
    split
    · exact cells_acc (List.mem_cons_of_mem _ h)
    · exact cells_acc h
theorem cells_has : ∀ {names : List (Str × NameKind)} {n : Nat} {acc : List (Str × Addr)} {x : Str}, (x, .cell) ∈ names → ∃ c, (x, c) ∈ cellsFrom n names acc
  | (m, k) :: r, n, acc, x, h => by
    unfold cellsFrom
    rcases List.mem_cons.mp h with e | h
    · cases e
      exact ⟨n, cells_acc List.mem_cons_self⟩
    · split
      · exact cells_has h
      · exact cells_has h
theorem cells_inj : ∀ {names : List (Str × NameKind)} {h : Heap} {acc : List (Str × Addr)} {x y : Str} {c : Addr}, (∀ p ∈ acc, p.2 < h.objs.size) → (∀ x y c, (x, c) ∈ acc → (y, c) ∈ acc → x = y) →
    (x, c) ∈ cellsFrom h.objs.size names acc → (y, c) ∈ cellsFrom h.objs.size names acc → x = y
  | [], _, _, _, _, _, _, hi, h1, h2 => hi _ _ _ h1 h2
  | (n, k) :: r, h, acc, x, y, c, hl, hi, h1, h2 => by
    unfold cellsFrom at h1 h2
    split at h1
    · rename_i hk
      rw [if_pos hk] at h2
      rw [← Heap.size_push h { cls := .type "cell", data := .cell none }] at h1 h2
      refine cells_inj (h := h.push _) (fun p hp => ?_) (fun x y c a b => ?_) h1 h2
      · rw [Heap.size_push]
        rcases List.mem_cons.mp hp with rfl | hp
        · exact Nat.lt_succ_self _
        · exact Nat.lt_succ_of_lt (hl p hp)
      · rcases List.mem_cons.mp a with e | a <;> rcases List.mem_cons.mp b with e' | b
        · cases e; cases e'; rfl
        · cases e; exact absurd (hl _ b) (Nat.lt_irrefl _)
        · cases e'; exact absurd (hl _ a) (Nat.lt_irrefl _)
        · exact hi _ _ _ a b
    · rename_i hk
      rw [if_neg hk] at h2
      exact cells_inj hl hi h1 h2

theorem newEnv_comp {M : Model} {A : Around} {E : Value → Shared → Prop} {s : Shared} {scope : Scope} {globals : Addr} {closure : List (Str × Addr)} {qual : Str} {func : Option Addr} {code : Value} {around : Env} {builtins : Addr} {Q : Env → Shared → Prop}
    (h : Q (newEnv scope s.heap.objs.size globals (cellsFrom (s.heap.objs.size + 1) scope.names closure) qual func code (some around) builtins)
      { s with heap := pushCells (s.heap.push { cls := .type "dict", data := .dict #[] }) scope.names }) :
    wpAny M A (newFunctionEnv scope globals closure [] qual func code (some around) builtins) Q E s := by
  simp only [newFunctionEnv, Option.isSome_some, if_true]
  refine wpAny_bind (wpAny_alloc ?_)
  refine wpAny_bind (wpAny_layCells _ (fun n k c => rfl) scope.names closure _ _ ?_)
  rw [show ({ s with heap := s.heap.push { cls := .type "dict", data := .dict #[] } } : Shared).heap.objs.size = s.heap.objs.size + 1 from Heap.size_push ..]
  rw [List.forIn_nil]
  exact wpAny_bind (wpAny_pure (wpAny_pure h))

/-- every name of the written scope, in the scope that runs -/
theorem lookup_relS {sc : Scope} : ∀ {names : List (Str × NameKind)} {x : Str} {k : NameKind},
    (names.map fun (n, k) => if (k == NameKind.free && sc.kind == .function && sc.names.lookup n == some .cell) then (n, NameKind.cell) else (n, k)).lookup x = some k →
    ∃ k', names.lookup x = some k' ∧ (k = k' ∨ (k' = .free ∧ k = .cell))
  | [], _, _, h => by simp at h
  | (n, k₀) :: r, x, k, h => by
    have ih := @lookup_relS sc r x k
    have h' : List.lookup x ((if (k₀ == NameKind.free && sc.kind == .function && sc.names.lookup n == some .cell) = true then (n, NameKind.cell) else (n, k₀)) :: (r.map _)) = some k := h
    cases hx : x == n with
    | true =>
      simp only [List.lookup_cons, hx]
      by_cases hc : (k₀ == NameKind.free && sc.kind == .function && sc.names.lookup n == some .cell) = true
      · rw [if_pos hc] at h'
        simp only [List.lookup_cons, hx] at h'
        cases h'
        simp only [Bool.and_eq_true, beq_iff_eq] at hc
        exact ⟨k₀, rfl, .inr ⟨hc.1.1, rfl⟩⟩
      · rw [if_neg hc] at h'
        simp only [List.lookup_cons, hx] at h'
        cases h'
        exact ⟨_, rfl, .inl rfl⟩
    | false =>
      simp only [List.lookup_cons, hx]
      by_cases hc : (k₀ == NameKind.free && sc.kind == .function && sc.names.lookup n == some .cell) = true
      · rw [if_pos hc] at h'
        simp only [List.lookup_cons, hx] at h'
        exact ih h'
      · rw [if_neg hc] at h'
        simp only [List.lookup_cons, hx] at h'
        exact ih h'
/-- the names of a comprehension's block: its own (with their places in N), or captured -/
structure BlkOk (N : List Str) (sc scope : Scope) (own : List (Str × Nat)) : Prop where
  kind : scope.kind = .function
  uniq : ∀ y ∈ scope.names, scope.names.lookup y.1 = some y.2
  ix : ∀ p ∈ own, N[p.2]? = some p.1
  free : ∀ y ∈ scope.names, y.2 = .free → sc.names.lookup y.1 = some .cell ∨ sc.names.lookup y.1 = some .free
  own : ∀ y ∈ scope.names, y.2 = .local ∨ y.2 = .cell → y.1 ∈ own.map (·.1) ∨ y.1 ∉ N
/-- the slots of the block's own names forgotten -/
def wipe (σ : St) : List Nat → St
  | [] => σ
  | v :: vs => (wipe σ vs).set v none
theorem wipe_length (σ : St) : ∀ vs : List Nat, (wipe σ vs).length = σ.length
  | [] => rfl
  | v :: vs => by unfold wipe; rw [List.length_set, wipe_length σ vs]
theorem wipe_some {σ : St} {i : Nat} {x : V} : ∀ {vs : List Nat}, (wipe σ vs)[i]? = some (some x) → σ[i]? = some (some x) ∧ i ∉ vs
  | [], h => ⟨h, by simp⟩
  | v :: vs, h => by
    unfold wipe at h
    by_cases hi : v = i
    · subst hi
      by_cases hv : v < (wipe σ vs).length
      · rw [List.getElem?_set_self hv] at h; cases h
      · rw [List.getElem?_eq_none (by simpa using hv)] at h; cases h
    · rw [List.getElem?_set_ne hi] at h
      obtain ⟨h1, h2⟩ := wipe_some h
      exact ⟨h1, by simp only [List.mem_cons, not_or]; exact ⟨fun e => hi e.symm, h2⟩⟩

/-- the context of a block that starts at s, its iterator's objects at fp -/
abbrev Cx.blk (X : Cx) (s : Shared) (H : Hp) (scope : Scope) (cenv : Env) (fp : List Addr) : Cx := { X with s_0 := s, H_0 := H, env := cenv, outer := X.stack, ex := fp, fn := fun x => scope.names.lookup x == some .cell, pn := [], xe := fun _ _ => False }
section
variable {X : Cx} {pins : List (Addr × Obj)} {σ : St} {H : Hp} {s : Shared}
theorem block_start {scope : Scope} {own : List (Str × Nat)} {fp : List Addr} (I : Inv X pins σ H s) (ok : BlkOk X.N X.env.scope scope own) (hN : X.N.Nodup) (hfp : ∀ b ∈ fp, FpOk X pins H b ∧ b < s.heap.objs.size) :
    Inv (X.blk s H scope (compEnvC scope (cellsFrom (s.heap.objs.size + 1) scope.names (cloFrom X.env.cells scope.names [])) s.heap.objs.size X.env) fp) [] (wipe σ (own.map (·.2))) H { s with heap := pushCells (s.heap.push { cls := .type "dict", data := .dict #[] }) scope.names } := by
  have hfree : ∀ y ∈ scope.names, y.2 = .free → ∃ c, X.env.cells.lookup y.1 = some c := fun y hy e => by
    rcases ok.free y hy e with k | k
    · exact I.ok.has _ (.inl k)
    · exact I.ok.has _ (.inr k)
  generalize hcenv : compEnvC scope (cellsFrom (s.heap.objs.size + 1) scope.names (cloFrom X.env.cells scope.names [])) s.heap.objs.size X.env = cenv
  have kp : ∀ b o, s.heap.get? b = some o → (pushCells (s.heap.push { cls := .type "dict", data := .dict #[] }) scope.names).get? b = some o := fun b o e => pushCells_keeps _ _ _ _ (Heap.get?_push_of_some _ e)
  have hL : cenv.locals = s.heap.objs.size := by rw [← hcenv]; rfl
  have hcl : cenv.cells = cellsFrom (s.heap.objs.size + 1) scope.names (cloFrom X.env.cells scope.names []) := by rw [← hcenv]; rfl
  have hsc : cenv.scope = relS scope X.env.scope := by rw [← hcenv]; rfl
  rw [← Heap.size_push s.heap { cls := .type "dict", data := .dict #[] }] at hcl
  have cm : ∀ {y c}, (y, c) ∈ cloFrom X.env.cells scope.names [] → X.env.cells.lookup y = some c ∧ c < s.heap.objs.size := fun {y c} hm => by
    rcases cloFrom_mem hm with hm | ⟨h1, rfl⟩
    · cases hm
    · obtain ⟨c, hc⟩ := hfree _ h1 rfl
      rw [hc]
      obtain ⟨w, z⟩ := I.cell _ _ hc
      exact ⟨rfl, z.lt⟩
  have mem : ∀ {y c}, cenv.cells.lookup y = some c → (X.env.cells.lookup y = some c ∧ c < s.heap.objs.size) ∨ (s.heap.objs.size + 1 ≤ c ∧ CellAt (pushCells (s.heap.push { cls := .type "dict", data := .dict #[] }) scope.names) c none) := fun {y c} e => by
    rw [hcl] at e
    rcases cells_mem (PySem.mem_of_lookup e) with hm | ⟨_, h2, h3⟩
    · exact .inl (cm hm)
    · rw [Heap.size_push] at h2; exact .inr ⟨h2, h3⟩
  have look : ∀ {y}, scope.names.lookup y = some .free → ∃ c, cenv.cells.lookup y = some c ∧ X.env.cells.lookup y = some c := fun {y} hl => by
    have hy : (y, NameKind.free) ∈ scope.names := PySem.mem_of_lookup hl
    obtain ⟨c', e'⟩ := mem_lookup (cells_acc (names := scope.names) (n := (s.heap.push { cls := .type "dict", data := .dict #[] }).objs.size) (cloFrom_has (cells := X.env.cells) (acc := []) hy))
    rw [← hcl] at e'
    refine ⟨c', e', ?_⟩
    rw [hcl] at e'
    rcases cells_mem (PySem.mem_of_lookup e') with hm | ⟨h1, _, _⟩
    · exact (cm hm).1
    · have := ok.uniq _ h1
      rw [hl] at this; cases this
  have okB : (X.blk s H scope cenv fp).Ok := by
    refine ⟨I.ok.mod, by show cenv.scope.kind = _; rw [hsc]; exact ok.kind, by show cenv.globals = _; rw [← hcenv]; exact I.ok.glob, by show cenv.builtins = _; rw [← hcenv]; exact I.ok.blt, by show s.heap.objs.size ≤ cenv.locals; rw [hL]; exact Nat.le_refl _,
      fun y z c e1 e2 => ?_, fun y hy => ?_, fun y c z e => ?_, I.ok.hd, I.ok.frames, .inl rfl, fun b hb => ⟨?_, fun y c e z => ?_⟩, I.bs, Nat.le_trans I.ok.bsz I.sz, fun b o e hb => ?_, fun b hb z => ?_, I.stack, I.stkFree⟩
    · have e1 : cenv.cells.lookup y = some c := e1
      have e2 : cenv.cells.lookup z = some c := e2
      rw [hcl] at e1 e2
      refine cells_inj (fun p hp => ?_) (fun y z c a b => I.ok.inj y z c (cm a).1 (cm b).1) (PySem.mem_of_lookup e1) (PySem.mem_of_lookup e2)
      rw [Heap.size_push]
      exact Nat.lt_succ_of_lt (cm (y := p.1) (c := p.2) hp).2
    · show ∃ c, cenv.cells.lookup y = some c
      have key : ∀ k, cenv.kindOf y = some k → (k = .cell ∨ k = .free) → ∃ c, cenv.cells.lookup y = some c := fun k hk hk' => by
        unfold Env.kindOf at hk
        rw [hsc] at hk
        obtain ⟨k', e, r⟩ := lookup_relS hk
        have : k' = .cell ∨ k' = .free := by
          rcases r with rfl | ⟨rfl, _⟩
          · exact hk'
          · exact .inr rfl
        rcases this with rfl | rfl
        · obtain ⟨c, hm⟩ := cells_has (n := (s.heap.push { cls := .type "dict", data := .dict #[] }).objs.size) (acc := cloFrom X.env.cells scope.names []) (PySem.mem_of_lookup e)
          obtain ⟨c', e'⟩ := mem_lookup hm
          exact ⟨c', by rw [hcl]; exact e'⟩
        · obtain ⟨c, h1, _⟩ := look e
          exact ⟨c, h1⟩
      rcases hy with hy | hy
      · exact key _ hy (.inl rfl)
      · exact key _ hy (.inr rfl)
    · have z : (scope.names.lookup y == some NameKind.cell) = true := z
      have z : scope.names.lookup y = some .cell := by simpa using z
      have e : cenv.cells.lookup y = some c := e
      rw [hcl] at e
      rcases cells_mem (PySem.mem_of_lookup e) with hm | ⟨_, h2, _⟩
      · rcases cloFrom_mem hm with hm | ⟨h1, _⟩
        · cases hm
        · have q := ok.uniq _ h1
          rw [z] at q; cases q
      · rw [Heap.size_push] at h2
        exact Nat.le_of_succ_le h2
    · show b ≠ cenv.locals
      rw [hL]; exact Nat.ne_of_lt (hfp b hb).2
    · have e : cenv.cells.lookup y = some c := e
      rcases mem e with ⟨h1, _⟩ | ⟨h1, _⟩
      · exact (hfp b hb).1.2.2.2.2.1 y c h1 z
      · have h2 : s.heap.objs.size + 1 ≤ b := by rw [← z]; exact h1
        exact absurd (Nat.lt_of_lt_of_le (hfp b hb).2 (Nat.le_of_succ_le h2)) (Nat.lt_irrefl _)
    · rcases (hfp b hb).1.2.2.2.1 with z | z
      · exact I.ok.noex b o e z
      · exact absurd (Nat.lt_of_lt_of_le (Heap.lt_size e) (Nat.le_trans I.ok.bsz z)) (Nat.lt_irrefl _)
    · rcases List.mem_cons.mp (I.stkSub b z) with z | z
      · exact (hfp b hb).1.2.1 z
      · exact (hfp b hb).1.2.2.1 z
  refine ⟨okB, rfl, I.bare, Un.kept kp, ⟨fun _ => none, ?_, fun i y av e1 e2 e3 => ?_⟩, fun y c e => ?_, ?_, fun y c e => ?_, fun p hp => ?_, I.hok.kept kp, by rw [wipe_length]; exact I.len⟩
  · show Heap.Ns _ cenv.locals _
    rw [hL]
    exact Heap.Ns.keeps (Heap.Ns.new ..) fun b o e => pushCells_keeps _ _ _ _ e
  · obtain ⟨e2, hne⟩ := wipe_some e2
    have hfr : scope.names.lookup y = some .free ∧ (cenv.kindOf y = some .cell ∨ cenv.kindOf y = some .free) := by
      have key : ∀ k, cenv.scope.names.lookup y = some k → k = .local ∨ k = .cell ∨ k = .free → scope.names.lookup y = some .free ∧ (cenv.kindOf y = some .cell ∨ cenv.kindOf y = some .free) := fun k hk hk' => by
        have hk0 := hk
        rw [hsc] at hk
        obtain ⟨k', e, r⟩ := lookup_relS hk
        have no : ¬ (k' = .local ∨ k' = .cell) := fun hh => by
          rcases ok.own _ (PySem.mem_of_lookup e) hh with e' | e'
          · obtain ⟨p, hp, hpy⟩ := List.mem_map.mp e'
            have e3 := ok.ix p hp
            have : p.1 = y := hpy
            rw [this] at e3
            exact hne (List.mem_map.mpr ⟨p, hp, nodup_ix hN e3 e1⟩)
          · exact e' (List.mem_of_getElem? e1)
        rcases r with rfl | ⟨rfl, rfl⟩
        · rcases hk' with rfl | rfl | rfl
          · exact absurd (.inl rfl) no
          · exact absurd (.inr rfl) no
          · exact ⟨e, .inr hk0⟩
        · exact ⟨e, .inl hk0⟩
      have e3 : Vis cenv.scope y := e3
      rcases e3 with e3 | e3 | e3
      · exact key _ e3 (.inl rfl)
      · exact key _ e3 (.inr (.inl rfl))
      · exact key _ e3 (.inr (.inr rfl))
    obtain ⟨m, hn, hl⟩ := I.loc
    have hvis : Vis X.env.scope y := (ok.free _ (PySem.mem_of_lookup hfr.1) rfl).elim (fun k => .inr (.inl k)) (fun k => .inr (.inr k))
    obtain ⟨w, r, q⟩ := hl i y av e1 e2 hvis
    refine ⟨w, r, .inr ⟨hfr.2, ?_⟩⟩
    obtain ⟨c, h1, h2⟩ := look hfr.1
    rcases q with ⟨k, _⟩ | ⟨_, c', e', z⟩
    · have k : X.env.scope.names.lookup y = some .local := k
      rcases ok.free _ (PySem.mem_of_lookup hfr.1) rfl with k' | k' <;> rw [show X.env.scope.names.lookup y = _ from k'] at k <;> cases k
    · rw [h2] at e'; cases e'
      exact ⟨c, h1, z.keeps kp⟩
  · have e : cenv.cells.lookup y = some c := e
    rcases mem e with ⟨h1, _⟩ | ⟨_, z⟩
    · obtain ⟨w, z⟩ := I.cell y c h1
      exact ⟨w, z.keeps kp⟩
    · exact ⟨_, z⟩
  · show H cenv.locals = none
    rw [hL]; exact I.hok.fresh (Nat.le_refl _)
  · have e : cenv.cells.lookup y = some c := e
    rcases mem e with ⟨h1, _⟩ | ⟨h1, _⟩
    · exact I.freeC y c h1
    · exact I.hok.fresh (Nat.le_of_succ_le h1)
  · exact absurd (show p ∈ ([] : List (Addr × Obj)) ++ [] from hp) (by simp)

/-- an item appended to a tracked list -/
theorem app_ok {E : Value → Shared → Prop} {D : Addr} {xs : List V} {y : V} {v : Value} {Q : Value → Shared → Prop} (I : Inv X pins σ H s) (hD : H D = some (.lst xs)) (hz : xs.length < sizeLine) (r : RelV y v)
    (h : ∀ s', Inv X pins σ (upd H D (.lst (xs ++ [y]))) s' → Q .none s') : wpAny (model X.prog X.w) X.A (call (.builtin "list.append") [.ref D, v]) Q E s := by
  obtain ⟨hz', its, n, ri, e⟩ := I.hok D _ hD
  have hl := ri.length
  refine append_at (hsz := by rw [List.size_toArray]; omega) e fun h' sb ho' => ?_
  refine h { s with heap := h' } (I.write (t' := s.toks) (by rw [hD]; trivial) (.inl rfl) (fun b u hb q => (sb.2 b hb).trans q) ⟨_, ho'⟩ ⟨by rw [List.length_append]; exact hz, its ++ [v], n + 1, ri.append (.cons r .nil), ?_⟩)
  rw [ho']
  simp

/-- a clause's tests -/
def PTs (X : Cx) (ifs : List Expr) (t : TT) : Prop :=
  ∀ (pins : List (Addr × Obj)) (s : Shared) (σ : St) (H : Hp) (Q : Bool → Hp → Prop), Inv X pins σ H s → t σ H Q →
    wpAny (model X.prog X.w) X.A (forIn ifs true fun c r => if r = true then do let ok ← isTrue c X.env (eval c X.env); pure (ForInStep.yield ok) else pure (ForInStep.yield r)) (TP X pins σ Q) X.xe s
def tYes : TT := fun _ H Q => Q true H
theorem pts_nil : PTs X [] tYes := fun _ _ _ H _ I h => wpAny_tests_nil ⟨H, I, h⟩
theorem pts_one {c : Expr} {t : TT} (h : PT X c t) : PTs X [c] t := fun pins s σ H Q I hw => wpAny_tests_one (h pins s σ H Q I hw)
end

theorem thnF {α : Type} {t : Sem α} {Q Q' : α → Shared → Prop} {M : Model} {A : Around} {E : Value → Shared → Prop} {s : Shared} (h : wpAny M A t Q (fun _ _ => False) s) (hQ : ∀ a s, Q a s → Q' a s) : wpAny M A t Q' E s := wpAny_mono h hQ fun _ _ z => False.elim z

/-- the loop of a list comprehension's block, the target of any form (codeAny_compLoop_tests asks a target that no tuple goes to; statement and proof follow it, PyProof/CompMap.lean:41-61, with the step letOwnedTupleGo kept) -/
theorem compLoop_any {prog : Program} {w : World} {A : Around} {R : Result → Shared → Prop} {s : Shared} {elt target iter : Expr} {ifs : List Expr} {scope : Scope} {pos : Pos} {it acc : Value} {env : Env} (I : Nat → Shared → Prop)
    (turn : ∀ n s, I n s → wpAny (model prog w) A (pyNext it) (fun r s₁ => match r with
      | none => R (.ok .next) s₁
      | some v => wpAny (model prog w) A (letOwnedTupleGo target it v) (fun _ s₁' => wpAny (model prog w) A (assign target env v) (fun _ s₂ =>
          wpAny (model prog w) A (forIn ifs true fun c r => if r = true then do let ok ← isTrue c env (eval c env); pure (ForInStep.yield ok) else pure (ForInStep.yield r)) (fun ok s₃ =>
            if ok = true then wpAny (model prog w) A (eval elt env) (fun x s₄ =>
              wpAny (model prog w) A (call (.builtin "list.append") [acc, x]) (fun _ s₅ => ∃ m, m < n ∧ I m s₅) (notedBy (model prog w) A env fun e s' => R (.error e) s') s₄) (notedBy (model prog w) A env fun e s' => R (.error e) s') s₃
            else ∃ m, m < n ∧ I m s₃) (notedBy (model prog w) A env fun e s' => R (.error e) s') s₂) (notedBy (model prog w) A env fun e s' => R (.error e) s') s₁') (notedBy (model prog w) A env fun e s' => R (.error e) s') s₁) (notedBy (model prog w) A env fun e s' => R (.error e) s') s)
    (n : Nat) (h : I n s) :
    codeAny (model prog w) A (.compLoop (.ListComp elt [⟨target, iter, ifs, 0⟩] scope pos) 0 it acc env) R s := by
  refine codeAny_loop rfl I (fun n s hI => ?_) n h
  show wpAny _ A ((compTurn (.ListComp elt [⟨target, iter, ifs, 0⟩] scope pos) 0 it acc env).onRaise (fun x => do noteFrame x env; theTreesLotGoes x)) _ _ s
  refine wpAny_noted ?_
  rw [compTurn_list]
  refine wpAny_bind (wpAny_standAt (wpAny_bind (wpAny_mono (turn n s hI) (fun r s₁ h₁ => ?_) fun _ _ h' => h')))
  cases r with
  | none => exact wpAny_pure h₁
  | some v =>
    refine wpAny_bind (wpAny_mono h₁ (fun _ s₁' h₁' => ?_) fun _ _ h' => h')
    refine wpAny_bind (wpAny_mono h₁' (fun _ s₂ h₂ => wpAny_bind (wpAny_mono h₂ (fun ok s₃ h₃ => ?_) fun _ _ h' => h')) fun _ _ h' => h')
    cases ok with
    | false => exact wpAny_pure ⟨rfl, h₃⟩
    | true =>
      exact wpAny_bind (wpAny_bind (wpAny_mono h₃ (fun x s₄ h₄ => wpAny_bind (wpAny_mono h₄ (fun _ s₅ h₅ => wpAny_pure (wpAny_pure ⟨rfl, h₅⟩)) fun _ _ h' => h')) fun _ _ h' => h'))

section
variable {X : Cx}
/-- [elt for target in iter if ..]: D the new list; W by the turn and a measure, Nx what a turn is to reach -/
def tLc (wi : TI) (g : TG) (tt : TT) (te : TE) (vs : List Nat) : TE := fun σ H Q => wi σ H fun J H1 => ∀ D, H1 D = none → ∃ W : Nat → Nat → Hp → Prop, (∃ m, W 0 m (upd H1 D (.lst []))) ∧ ∀ i m H, W i m H →
  (J.stop i H ∧ Q (.ref D) H) ∨ (J.go i H ∧ ∃ Nx : Hp → Prop, (∀ H', Nx H' → ∃ m', m' < m ∧ W (i + 1) m' H') ∧ ∀ x H', J.yld i H x H' → g x (wipe σ vs) H' fun σ2 H2 => wipe σ2 vs = wipe σ vs ∧ tt σ2 H2 fun b H3 =>
    if b = true then te σ2 H3 fun y H4 => ∃ acc, H4 D = some (.lst acc) ∧ acc.length < sizeLine ∧ Nx (upd H4 D (.lst (acc ++ [y]))) else Nx H3)
theorem lc_core {pins : List (Addr × Obj)} {s : Shared} {σ : St} {H : Hp} {Q : VK} {elt tg iter : Expr} {ifs : List Expr} {scope : Scope} {own : List (Str × Nat)} {pos pos' : Pos} {wi : TI} {g : TG} {tt : TT} {te : TE} {use : Option (Value → Sem Unit)} {Qf : Value → Shared → Prop}
    (hc : X.calm = true) (hN : X.N.Nodup) (I : Inv X pins σ H s) (hi : PI X tg iter wi) (ok : BlkOk X.N X.env.scope scope own)
    (hg : ∀ (s : Shared) (H : Hp) (C : Addr) (cl : List (Str × Addr)) (fp : List Addr), PG (X.blk s H scope (compEnvC scope cl C X.env) fp) tg g) (ht : ∀ (s : Shared) (H : Hp) (C : Addr) (cl : List (Str × Addr)) (fp : List Addr), PTs (X.blk s H scope (compEnvC scope cl C X.env) fp) ifs tt)
    (he : ∀ (s : Shared) (H : Hp) (C : Addr) (cl : List (Str × Addr)) (fp : List Addr), PE (X.blk s H scope (compEnvC scope cl C X.env) fp) elt te) (hs : ∀ x, foldedSetIterable iter X.env x = pure x)
    (h : tLc wi g tt te (own.map (·.2)) σ H Q)
    (hRR : ∀ D C s' m H', Inv X pins σ H' s' → Q (.ref D) H' → s'.heap.Ns C m → FpOk X pins H' C → compPost (model X.prog X.w) X.A X.xe use Qf (.ref D) C (.ok .next) s') :
    wpAny (model X.prog X.w) X.A (comprehension (.ListComp elt [⟨tg, iter, ifs, 0⟩] scope pos) scope X.env pos' (newList []) false (eval iter X.env) use) Qf X.xe s := by
  have hfree : ∀ y ∈ scope.names, y.2 = .free → ∃ c, X.env.cells.lookup y.1 = some c := fun y hy e => by
    rcases ok.free y hy e with k | k
    · exact I.ok.has _ (.inl k)
    · exact I.ok.has _ (.inr k)
  refine wpAny_comprehension_free (use := use) rfl hs (closure_ok hfree) ok.kind (fun y hy e => by rw [ok.uniq y hy, e])
    (thn (hi pins s σ H _ I h) fun xv s1 hx => thn hx fun itv s2 h2 => ?_)
  obtain ⟨it, fp, tn, J, H2, e, I2, T, st2, f2, q⟩ := h2
  subst e
  refine wpAny_newObj_type (newEnv_comp ?_) (by show 0 ≤ sizeLine; decide)
  generalize hD : s2.heap.objs.size = D
  have hDn : H2 D = none := I2.hok.fresh (Nat.le_of_eq hD)
  obtain ⟨W, ⟨m0, w0⟩, turn⟩ := q D hDn
  -- the new list
  generalize hs3 : ({ s2 with heap := s2.heap.push { cls := .type "list", data := .seq ([] : List Value).toArray } } : Shared) = s3
  have I3 : Inv X pins σ (upd H2 D (.lst [])) s3 := by
    rw [← hs3]
    refine I2.laid (t' := s2.toks) (fun b o e => Heap.get?_push_of_some _ e) (Nat.le_of_eq hD) ⟨Nat.zero_le _, [], 0, .nil, ?_⟩
    rw [← hD]
    exact Heap.get?_push_size _ rfl
  have h3 : s3.heap = s2.heap.push { cls := .type "list", data := .seq ([] : List Value).toArray } := by rw [← hs3]
  have sz : ∀ b ∈ fp, b < s2.heap.objs.size := fun b hb => by
    obtain ⟨o, e, _⟩ := T.obj _ _ st2 b hb
    exact Heap.lt_size e
  have f3 : ∀ b ∈ fp, FpOk X pins (upd H2 D (.lst [])) b ∧ b < s3.heap.objs.size := fun b hb => by
    have hlt := sz b hb
    refine ⟨⟨?_, (f2 b hb).2⟩, by rw [h3, Heap.size_push]; exact Nat.lt_succ_of_lt hlt⟩
    rw [upd_ne (by rw [← hD]; exact Nat.ne_of_lt hlt)]
    exact (f2 b hb).1
  have st3 : tn 0 s3.heap := T.keep _ _ _ st2 fun b _ o e => by rw [h3]; exact Heap.get?_push_of_some _ e
  have I4 := block_start I3 ok hN f3
  have pg := hg s3 (upd H2 D (.lst [])) s3.heap.objs.size (cellsFrom (s3.heap.objs.size + 1) scope.names (cloFrom X.env.cells scope.names [])) fp
  have pt := ht s3 (upd H2 D (.lst [])) s3.heap.objs.size (cellsFrom (s3.heap.objs.size + 1) scope.names (cloFrom X.env.cells scope.names [])) fp
  have pe := he s3 (upd H2 D (.lst [])) s3.heap.objs.size (cellsFrom (s3.heap.objs.size + 1) scope.names (cloFrom X.env.cells scope.names [])) fp
  show codeAny _ _ (.compStart (.ListComp elt [⟨tg, iter, ifs, 0⟩] scope pos) 0 (.ref it) (.ref D) (compEnvC scope (cellsFrom (s3.heap.objs.size + 1) scope.names (cloFrom X.env.cells scope.names [])) s3.heap.objs.size X.env)) (compPost (model X.prog X.w) X.A X.xe use Qf (.ref D) s3.heap.objs.size) { s3 with heap := pushCells (s3.heap.push { cls := .type "dict", data := .dict #[] }) scope.names }
  have nfp : ∀ b ∈ fp, (upd H2 D (.lst [])) b = none := fun b hb => (f3 b hb).1.1
  generalize hce : compEnvC scope (cellsFrom (s3.heap.objs.size + 1) scope.names (cloFrom X.env.cells scope.names [])) s3.heap.objs.size X.env = ce at I4 pg pt pe ⊢
  have cL : ce.locals = s3.heap.objs.size := by subst hce; rfl
  generalize hH3 : upd H2 D (.lst []) = H3 at I3 I4 pg pt pe w0 nfp f3
  generalize hs4 : ({ s3 with heap := pushCells (s3.heap.push { cls := .type "dict", data := .dict #[] }) scope.names } : Shared) = s4 at I4 ⊢
  have st4 : tn 0 s4.heap := T.keep _ _ _ st3 fun b _ o e => by rw [← hs4]; exact pushCells_keeps _ _ _ _ (Heap.get?_push_of_some _ e)
  have stat : ∀ {σ' : St} {H' : Hp} {s' : Shared}, Inv (X.blk s3 H3 scope ce fp) [] σ' H' s' → (∀ b ∈ fp, H' b = none) → ∀ b ∈ fp, FpOk (X.blk s3 H3 scope ce fp) [] H' b := fun {σ' H' s'} I' hn b hb =>
    ⟨hn b hb, (I'.ok.exf b hb).1, I'.ok.exfs b hb, .inl hb, fun x c e => (I'.ok.exf b hb).2 x c e, fun p hp => absurd (show p ∈ ([] : List (Addr × Obj)) ++ [] from hp) (by simp)⟩
  have loop : codeAny (model X.prog X.w) X.A (.compLoop (.ListComp elt [⟨tg, iter, ifs, 0⟩] scope pos) 0 (.ref it) (.ref D) ce) (compPost (model X.prog X.w) X.A X.xe use Qf (.ref D) s3.heap.objs.size) s4 := by
    refine compLoop_any (fun n s' => ∃ i H', Inv (X.blk s3 H3 scope ce fp) [] (wipe σ (own.map (·.2))) H' s' ∧ tn i s'.heap ∧ (∀ b ∈ fp, H' b = none) ∧ W i n H') ?_ m0 ⟨0, H3, I4, st4, nfp, w0⟩
    rintro n s5 ⟨i, H5, I5, st5, n5, w5⟩
    rcases turn i n H5 w5 with ⟨stop, qq⟩ | ⟨go, Nx, hNx, step⟩
    · have td := T.done (X.blk s3 H3 scope ce fp) rfl rfl rfl hc i [] s5 _ H5 (fun _ _ => False) I5 (stat I5 n5) st5 stop
      refine thnF td fun r s6 ⟨hr, I6⟩ => ?_
      subst hr
      -- back in the def's context
      have I7 : Inv X pins σ H5 s6 := I3.call' (ch := fp) I6.os I6.base I6.hok I6.bare fun b hb => ⟨(f3 b hb).1.2.2.2.1, (f3 b hb).1.2.1, (f3 b hb).1.2.2.2.2.1, (f3 b hb).1.2.2.2.2.2⟩
      have nC : H5 s3.heap.objs.size = none := by
        have z : H5 ce.locals = none := I6.free
        rw [cL] at z
        exact z
      obtain ⟨m, hn, _⟩ := I6.loc
      have hn : s6.heap.Ns ce.locals m := hn
      rw [cL] at hn
      exact hRR D s3.heap.objs.size s6 m H5 I7 qq hn (I3.fpOk (Nat.le_refl _) nC)
    · have ti := T.item (X.blk s3 H3 scope ce fp) rfl rfl rfl hc i [] s5 _ H5 (fun _ _ => False) I5 (stat I5 n5) st5 go
      refine thnF ti fun r s6 ⟨u, hr, h6⟩ => ?_
      subst hr
      refine thnF h6 fun _ s7 ⟨x, H7, I7, r7, y7, st7, n7⟩ => ?_
      have I7' := I7.pinned (stat I7 n7) (T.obj _ _ st7)
      refine thnF (pg _ s7 _ H7 x u _ I7' r7 (step x H7 y7)) fun _ s8 ⟨σ8, H8, I8, hw8, q8⟩ => ?_
      refine thnF (pt _ s8 σ8 H8 _ I8 q8) fun b s9 ⟨H9, I9, q9⟩ => ?_
      -- the turn's end
      have fin : ∀ {s' : Shared} {H' : Hp}, Inv (X.blk s3 H3 scope ce fp) ([] ++ pinsAt fp s7.heap) σ8 H' s' → Nx H' → ∃ m, m < n ∧ ∃ i H', Inv (X.blk s3 H3 scope ce fp) [] (wipe σ (own.map (·.2))) H' s' ∧ tn i s'.heap ∧ (∀ b ∈ fp, H' b = none) ∧ W i m H' := fun {s' H'} I' nx => by
        obtain ⟨m', hm, w'⟩ := hNx H' nx
        have pin' : ∀ b ∈ fp, ∀ o, s7.heap.get? b = some o → s'.heap.get? b = some o ∧ H' b = none := fun b hb o e =>
          let z := I'.pin (b, o) (List.mem_append_right _ (List.mem_append_right _ (mem_pinsAt hb e)))
          ⟨z.1, z.2.1⟩
        have hl : (wipe σ (own.map (·.2))).length = σ8.length := by rw [← hw8, wipe_length]
        refine ⟨m', hm, i + 1, H', (I'.unpinned (pins := [])).weak hl (fun j v e => ?_), T.keep _ _ _ st7 fun b hb o e => (pin' b hb o e).1, fun b hb => ?_, w'⟩
        · rw [← hw8] at e
          exact (wipe_some e).1
        · obtain ⟨o, e, _⟩ := T.obj _ _ st7 b hb
          exact (pin' b hb o e).2
      cases b with
      | false =>
        simp only [Bool.false_eq_true, if_false] at q9 ⊢
        exact fin I9 q9
      | true =>
        simp only [if_true] at q9 ⊢
        refine thnF (pe _ s9 σ8 H9 _ I9 q9) fun z s10 ⟨yv, H10, I10, r10, acc, hD10, hz10, nx⟩ => ?_
        exact app_ok (X := X.blk s3 H3 scope ce fp) I10 hD10 hz10 r10 fun s11 I11 => fin I11 nx
  exact codeAny_compStart_list loop (T.self X.A 0 _ _ _ st4 loop)
/-- as a value -/
theorem pe_lc {elt tg iter : Expr} {ifs : List Expr} {scope : Scope} {own : List (Str × Nat)} {pos : Pos} {wi : TI} {g : TG} {tt : TT} {te : TE} (hc : X.calm = true) (hN : X.N.Nodup) (hi : PI X tg iter wi) (ok : BlkOk X.N X.env.scope scope own)
    (hg : ∀ (s : Shared) (H : Hp) (C : Addr) (cl : List (Str × Addr)) (fp : List Addr), PG (X.blk s H scope (compEnvC scope cl C X.env) fp) tg g) (ht : ∀ (s : Shared) (H : Hp) (C : Addr) (cl : List (Str × Addr)) (fp : List Addr), PTs (X.blk s H scope (compEnvC scope cl C X.env) fp) ifs tt)
    (he : ∀ (s : Shared) (H : Hp) (C : Addr) (cl : List (Str × Addr)) (fp : List Addr), PE (X.blk s H scope (compEnvC scope cl C X.env) fp) elt te) (hs : ∀ x, foldedSetIterable iter X.env x = pure x := by intro _; rfl) :
    PE X (.ListComp elt [⟨tg, iter, ifs, 0⟩] scope pos) (tLc wi g tt te (own.map (·.2))) := by
  intro pins s σ H Q I h
  rw [eval_ListComp]
  refine lc_core hc hN I hi ok hg ht he hs h fun D C s' m H' I' q hn f => ⟨m, hn, fun h'' sb => ?_⟩
  obtain ⟨f0, f1, f2, f3, f4, f5⟩ := f
  exact ⟨.ref D, H', I'.turned (t' := s'.toks) (fun b o hb e => (sb.2 b hb).trans e) f0 f1 f3 f4 f5, rfl, q⟩
/-- name = [..] on one line, the name a local -/
theorem ps_setLc {i : Nat} {y : Str} {py : Pos} {elt tg iter : Expr} {ifs : List Expr} {scope : Scope} {own : List (Str × Nat)} {pos spos : Pos} {wi : TI} {g : TG} {tt : TT} {te : TE} (hc : X.calm = true) (hN : X.N.Nodup) (hy : X.N[i]? = some y) (hyl : X.env.scope.names.lookup y = some .local)
    (hsw : swapsWith (.ListComp elt [⟨tg, iter, ifs, 0⟩] scope pos) (some (.Name y py)) spos.line X.env = pure true) (hi : PI X tg iter wi) (ok : BlkOk X.N X.env.scope scope own)
    (hg : ∀ (s : Shared) (H : Hp) (C : Addr) (cl : List (Str × Addr)) (fp : List Addr), PG (X.blk s H scope (compEnvC scope cl C X.env) fp) tg g) (ht : ∀ (s : Shared) (H : Hp) (C : Addr) (cl : List (Str × Addr)) (fp : List Addr), PTs (X.blk s H scope (compEnvC scope cl C X.env) fp) ifs tt)
    (he : ∀ (s : Shared) (H : Hp) (C : Addr) (cl : List (Str × Addr)) (fp : List Addr), PE (X.blk s H scope (compEnvC scope cl C X.env) fp) elt te) (hs : ∀ x, foldedSetIterable iter X.env x = pure x := by intro _; rfl) :
    PS X (.Assign [.Name y py] (.ListComp elt [⟨tg, iter, ifs, 0⟩] scope pos) spos) (tAsg (tLc wi g tt te (own.map (·.2))) (gName i)) := by
  intro pins s σ H D I h
  rw [exec_Assign_Name_used _ _ _ _ hsw]
  refine wpAny_bind (wpAny_standAt (wpAny_bind ?_))
  show wpAny _ X.A (do let _ ← comprehension (.ListComp elt [⟨tg, iter, ifs, 0⟩] scope pos) scope X.env (firstIterPos [⟨tg, iter, ifs, 0⟩] pos) (newList []) false (eval iter X.env) (some (assign (.Name y py) X.env))) _ _ s
  have h : tLc wi g tt te (own.map (·.2)) σ H (fun x H1 => gName i x σ H1 D.nx) := h
  refine wpAny_bind (thn (lc_core (Qf := fun _ s' => SP X pins D .next s') hc hN I hi ok hg ht he hs h fun L C s' m H' I' q hn f => ?_) fun _ s' hq => wpAny_pure (wpAny_pure hq))
  show wpAny _ _ (assign (.Name y py) X.env (.ref L)) _ _ _
  refine wpAny_assign_Name (store_ok2 (v := V.ref L) I' hN hy (.inl hyl) rfl (fun s2 I2 ⟨a, sb, ha⟩ => ?_) (.inr hyl))
  obtain ⟨f0, f1, f2, f3, f4, f5⟩ := f
  have haC : C ≠ a := by
    rcases ha with z | z
    · rw [z]; exact f1
    · exact fun e => f4 y a z e.symm
  refine ⟨m, hn.sameBut sb haC, fun h3 sb3 => ?_⟩
  exact ⟨_, H', I2.turned (t' := s2.toks) (fun b o hb e => (sb3.2 b hb).trans e) f0 f1 f3 f4 f5, q⟩
theorem sw_true {elt : Expr} {gs : List Comprehension} {scope : Scope} {pos py : Pos} {y : Str} {l : Nat} {env : Env} (hk : env.scope.kind = .function) (hy : env.scope.names.lookup y = some .local) (hl : (py.line == pos.line) = true)
    (ha : (scope.names.any fun (n, k) => n == y && (k == .local || k == .cell)) = false) : swapsWith (.ListComp elt gs scope pos) (some (.Name y py)) l env = pure true := by
  have ky : env.kindOf y = some .local := hy
  have hb : env.blockKind = .function := by unfold Env.blockKind; rw [hk]; rfl
  unfold swapsWith
  simp only [hb, ky, ha, Expr.pos, hl]
  rfl
end

/-! ### the forms one uses -/
/-- over a range: Pv by the turn and the heap (the new list at D within) -/
theorem lc_range {lo : Int} {n : Nat} {g : TG} {tt : TT} {te : TE} {vs : List Nat} {σ : St} {H1 : Hp} {D : Addr} {Qd : Hp → Prop} (Pv : Nat → Hp → Prop) (h0 : Pv 0 (upd H1 D (.lst [])))
    (hs : ∀ i H, i < n → Pv i H → g (.int (lo + i)) (wipe σ vs) H fun σ2 H2 => wipe σ2 vs = wipe σ vs ∧ tt σ2 H2 fun b H3 =>
      if b = true then te σ2 H3 fun y H4 => ∃ acc, H4 D = some (.lst acc) ∧ acc.length < sizeLine ∧ Pv (i + 1) (upd H4 D (.lst (acc ++ [y]))) else Pv (i + 1) H3) (hd : ∀ H, Pv n H → Qd H) :
    ∃ W : Nat → Nat → Hp → Prop, (∃ m, W 0 m (upd H1 D (.lst []))) ∧ ∀ i m H, W i m H →
      ((Itr lo n).stop i H ∧ Qd H) ∨ ((Itr lo n).go i H ∧ ∃ Nx : Hp → Prop, (∀ H', Nx H' → ∃ m', m' < m ∧ W (i + 1) m' H') ∧ ∀ x H', (Itr lo n).yld i H x H' → g x (wipe σ vs) H' fun σ2 H2 => wipe σ2 vs = wipe σ vs ∧ tt σ2 H2 fun b H3 =>
        if b = true then te σ2 H3 fun y H4 => ∃ acc, H4 D = some (.lst acc) ∧ acc.length < sizeLine ∧ Nx (upd H4 D (.lst (acc ++ [y]))) else Nx H3) := by
  refine ⟨fun i m H => m = n - i ∧ i ≤ n ∧ Pv i H, ⟨n, by simp, Nat.zero_le _, h0⟩, ?_⟩
  rintro i m H ⟨rfl, hi, p⟩
  by_cases hlt : i < n
  · refine .inr ⟨hlt, Pv (i + 1), fun H' p' => ⟨n - (i + 1), by omega, rfl, hlt, p'⟩, fun x H' y => ?_⟩
    obtain ⟨e, y⟩ := y
    subst e y
    exact hs i _ hlt p
  · have e : i = n := by omega
    subst e
    exact .inl ⟨Nat.le_refl _, hd H p⟩
/-- over a list that the block leaves as it is -/
theorem lc_list {K : PySem.W.Frag} {a : Addr} {xs : List V} {g : TG} {tt : TT} {te : TE} {vs : List Nat} {σ : St} {H1 : Hp} {D : Addr} {Qd : Hp → Prop} (Pv : Nat → Hp → Prop) (h0 : Pv 0 (upd H1 D (.lst []))) (hl : ∀ i H, i ≤ xs.length → Pv i H → SqL K H a xs)
    (hs : ∀ i x H, xs[i]? = some x → Pv i H → g x (wipe σ vs) H fun σ2 H2 => wipe σ2 vs = wipe σ vs ∧ tt σ2 H2 fun b H3 =>
      if b = true then te σ2 H3 fun y H4 => ∃ acc, H4 D = some (.lst acc) ∧ acc.length < sizeLine ∧ Pv (i + 1) (upd H4 D (.lst (acc ++ [y]))) else Pv (i + 1) H3) (hd : ∀ H, Pv xs.length H → Qd H) :
    ∃ W : Nat → Nat → Hp → Prop, (∃ m, W 0 m (upd H1 D (.lst []))) ∧ ∀ i m H, W i m H →
      ((Itl K a).stop i H ∧ Qd H) ∨ ((Itl K a).go i H ∧ ∃ Nx : Hp → Prop, (∀ H', Nx H' → ∃ m', m' < m ∧ W (i + 1) m' H') ∧ ∀ x H', (Itl K a).yld i H x H' → g x (wipe σ vs) H' fun σ2 H2 => wipe σ2 vs = wipe σ vs ∧ tt σ2 H2 fun b H3 =>
        if b = true then te σ2 H3 fun y H4 => ∃ acc, H4 D = some (.lst acc) ∧ acc.length < sizeLine ∧ Nx (upd H4 D (.lst (acc ++ [y]))) else Nx H3) := by
  refine ⟨fun i m H => m = xs.length - i ∧ i ≤ xs.length ∧ Pv i H, ⟨xs.length, by simp, Nat.zero_le _, h0⟩, ?_⟩
  rintro i m H ⟨rfl, hi, p⟩
  have q := hl i H hi p
  by_cases hlt : i < xs.length
  · refine .inr ⟨⟨xs, xs[i], q, by simp [hlt]⟩, Pv (i + 1), fun H' p' => ⟨xs.length - (i + 1), by omega, rfl, hlt, p'⟩, fun x H' y => ?_⟩
    obtain ⟨e, y⟩ := y
    subst e
    exact hs i x _ (y xs q) p
  · have e : i = xs.length := by omega
    subst e
    exact .inl ⟨⟨xs, q, Nat.le_refl _⟩, hd H p⟩
def blkC (N : List Str) (sc scope : Scope) (own : List (Str × Nat)) : Bool :=
  (match scope.kind with | .function => true | _ => false) && (scope.names.all fun y => decide (scope.names.lookup y.1 = some y.2)) && (own.all fun p => decide (N[p.2]? = some p.1)) &&
    (scope.names.all fun y => match y.2 with
      | .free => (match sc.names.lookup y.1 with | some .cell => true | some .free => true | _ => false)
      | .local => decide (y.1 ∈ own.map (·.1)) || decide (y.1 ∉ N)
      | .cell => decide (y.1 ∈ own.map (·.1)) || decide (y.1 ∉ N)
      | _ => true)
theorem blkOk_by {N : List Str} {sc scope : Scope} {own : List (Str × Nat)} (h : blkC N sc scope own = true) : BlkOk N sc scope own := by
  unfold blkC at h
  simp only [Bool.and_eq_true, List.all_eq_true, decide_eq_true_eq] at h
  obtain ⟨⟨⟨h1, h2⟩, h3⟩, h4⟩ := h
  refine ⟨?_, h2, h3, fun y hy e => ?_, fun y hy e => ?_⟩
  · split at h1
    · assumption
    · cases h1
  · have q := h4 y hy
    simp only [e] at q
    split at q <;> first | exact .inl (by assumption) | exact .inr (by assumption) | cases q
  · have q := h4 y hy
    rcases e with e | e <;> (simp only [e, Bool.or_eq_true, decide_eq_true_eq] at q; exact q)
end L2

namespace L2
open PySem PySem.Spec PyProof.Rows

theorem compTurn2_out (elt t0 i0 t1 i1 : Expr) (ifs0 ifs1 : List Expr) (scope : Scope) (pos : Pos) (it acc : Value) (env : Env) :
    compTurn (.ListComp elt [⟨t0, i0, ifs0, 0⟩, ⟨t1, i1, ifs1, 0⟩] scope pos) 0 it acc env = (do
      standAt i0.pos
      match ← pyNext it with
      | none => pure (.done .next)
      | some v =>
        letOwnedTupleGo t0 it v
        assign t0 env v
        let mut ok := true
        for c in ifs0 do
          if ok then ok ← isTrue c env (eval c env)
        if ok then
          let x ← eval i1 env
          standAt i1.pos
          let x ← foldedSetIterable i1 env x
          let _ ← runOwn (.compStart (.ListComp elt [⟨t0, i0, ifs0, 0⟩, ⟨t1, i1, ifs1, 0⟩] scope pos) 1 (← holding [x] (pyIter x)) acc env) env
        again (.compLoop (.ListComp elt [⟨t0, i0, ifs0, 0⟩, ⟨t1, i1, ifs1, 0⟩] scope pos) 0 it acc env)) := by rfl
theorem compTurn2_in (elt t0 i0 t1 i1 : Expr) (ifs0 ifs1 : List Expr) (scope : Scope) (pos : Pos) (it acc : Value) (env : Env) :
    compTurn (.ListComp elt [⟨t0, i0, ifs0, 0⟩, ⟨t1, i1, ifs1, 0⟩] scope pos) 1 it acc env = (do
      standAt i1.pos
      match ← pyNext it with
      | none => pure (.done .next)
      | some v =>
        letOwnedTupleGo t1 it v
        assign t1 env v
        let mut ok := true
        for c in ifs1 do
          if ok then ok ← isTrue c env (eval c env)
        if ok then
          (do let _ ← call (.builtin "list.append") [acc, ← eval elt env])
        again (.compLoop (.ListComp elt [⟨t0, i0, ifs0, 0⟩, ⟨t1, i1, ifs1, 0⟩] scope pos) 1 it acc env)) := by rfl

section
variable {prog : Program} {w : World} {A : Around} {R : Result → Shared → Prop} {s : Shared} {elt t0 i0 t1 i1 : Expr} {ifs0 ifs1 : List Expr} {scope : Scope} {pos : Pos} {it acc : Value} {env : Env}
/-- the loop of the first clause -/
theorem compLoop2_out (hs : ∀ x, foldedSetIterable i1 env x = pure x) (I : Nat → Shared → Prop)
    (turn : ∀ n s, I n s → wpAny (model prog w) A (pyNext it) (fun r s₁ => match r with
      | none => R (.ok .next) s₁
      | some v => wpAny (model prog w) A (letOwnedTupleGo t0 it v) (fun _ s₁' => wpAny (model prog w) A (assign t0 env v) (fun _ s₂ =>
          wpAny (model prog w) A (forIn ifs0 true fun c r => if r = true then do let ok ← isTrue c env (eval c env); pure (ForInStep.yield ok) else pure (ForInStep.yield r)) (fun ok s₃ =>
            if ok = true then wpAny (model prog w) A (eval i1 env) (fun x s₄ => wpAny (model prog w) A (pyIter x) (fun it1 s₅ =>
              codeAny (model prog w) A (.compStart (.ListComp elt [⟨t0, i0, ifs0, 0⟩, ⟨t1, i1, ifs1, 0⟩] scope pos) 1 it1 acc env) (fun r s' => match r with
                | .ok _ => ∃ m, m < n ∧ I m s'
                | .error _ => False) s₅) (notedBy (model prog w) A env fun e s' => R (.error e) s') s₄) (notedBy (model prog w) A env fun e s' => R (.error e) s') s₃
            else ∃ m, m < n ∧ I m s₃) (notedBy (model prog w) A env fun e s' => R (.error e) s') s₂) (notedBy (model prog w) A env fun e s' => R (.error e) s') s₁') (notedBy (model prog w) A env fun e s' => R (.error e) s') s₁) (notedBy (model prog w) A env fun e s' => R (.error e) s') s)
    (n : Nat) (h : I n s) :
    codeAny (model prog w) A (.compLoop (.ListComp elt [⟨t0, i0, ifs0, 0⟩, ⟨t1, i1, ifs1, 0⟩] scope pos) 0 it acc env) R s := by
  refine codeAny_loop rfl I (fun n s hI => ?_) n h
  show wpAny _ A ((compTurn (.ListComp elt [⟨t0, i0, ifs0, 0⟩, ⟨t1, i1, ifs1, 0⟩] scope pos) 0 it acc env).onRaise (fun x => do noteFrame x env; theTreesLotGoes x)) _ _ s
  refine wpAny_noted ?_
  rw [compTurn2_out]
  refine wpAny_bind (wpAny_standAt (wpAny_bind (wpAny_mono (turn n s hI) (fun r s₁ h₁ => ?_) fun _ _ h' => h')))
  cases r with
  | none => exact wpAny_pure h₁
  | some v =>
    refine wpAny_bind (wpAny_mono h₁ (fun _ s₁' h₁' => ?_) fun _ _ h' => h')
    refine wpAny_bind (wpAny_mono h₁' (fun _ s₂ h₂ => wpAny_bind (wpAny_mono h₂ (fun ok s₃ h₃ => ?_) fun _ _ h' => h')) fun _ _ h' => h')
    cases ok with
    | false => exact wpAny_pure ⟨rfl, h₃⟩
    | true =>
      refine wpAny_bind (wpAny_mono h₃ (fun x s₄ h₄ => ?_) fun _ _ h' => h')
      refine wpAny_bind (wpAny_standAt (wpAny_bind (wpAny_of_eq (hs x) (wpAny_bind (wpAny_holding (wpAny_mono h₄ (fun it1 s₅ h₅ => ?_) fun _ _ h' => h'))))))
      refine wpAny_bind (wpAny_runOwn ?_)
      rw [Around.mark_none]
      refine codeAny_mono h₅ fun r s' hr => ?_
      cases r with
      | ok f =>
        first
          | exact wpAny_pure ⟨rfl, hr⟩
          | exact wpAny_bind (wpAny_pure (wpAny_pure ⟨rfl, hr⟩))
      | error e => exact hr.elim
/-- the loop of the second -/
theorem compLoop2_in (I : Nat → Shared → Prop)
    (turn : ∀ n s, I n s → wpAny (model prog w) A (pyNext it) (fun r s₁ => match r with
      | none => R (.ok .next) s₁
      | some v => wpAny (model prog w) A (letOwnedTupleGo t1 it v) (fun _ s₁' => wpAny (model prog w) A (assign t1 env v) (fun _ s₂ =>
          wpAny (model prog w) A (forIn ifs1 true fun c r => if r = true then do let ok ← isTrue c env (eval c env); pure (ForInStep.yield ok) else pure (ForInStep.yield r)) (fun ok s₃ =>
            if ok = true then wpAny (model prog w) A (eval elt env) (fun x s₄ =>
              wpAny (model prog w) A (call (.builtin "list.append") [acc, x]) (fun _ s₅ => ∃ m, m < n ∧ I m s₅) (notedBy (model prog w) A env fun e s' => R (.error e) s') s₄) (notedBy (model prog w) A env fun e s' => R (.error e) s') s₃
            else ∃ m, m < n ∧ I m s₃) (notedBy (model prog w) A env fun e s' => R (.error e) s') s₂) (notedBy (model prog w) A env fun e s' => R (.error e) s') s₁') (notedBy (model prog w) A env fun e s' => R (.error e) s') s₁) (notedBy (model prog w) A env fun e s' => R (.error e) s') s)
    (n : Nat) (h : I n s) :
    codeAny (model prog w) A (.compLoop (.ListComp elt [⟨t0, i0, ifs0, 0⟩, ⟨t1, i1, ifs1, 0⟩] scope pos) 1 it acc env) R s := by
  refine codeAny_loop rfl I (fun n s hI => ?_) n h
  show wpAny _ A ((compTurn (.ListComp elt [⟨t0, i0, ifs0, 0⟩, ⟨t1, i1, ifs1, 0⟩] scope pos) 1 it acc env).onRaise (fun x => do noteFrame x env; theTreesLotGoes x)) _ _ s
  refine wpAny_noted ?_
  rw [compTurn2_in]
  refine wpAny_bind (wpAny_standAt (wpAny_bind (wpAny_mono (turn n s hI) (fun r s₁ h₁ => ?_) fun _ _ h' => h')))
  cases r with
  | none => exact wpAny_pure h₁
  | some v =>
    refine wpAny_bind (wpAny_mono h₁ (fun _ s₁' h₁' => ?_) fun _ _ h' => h')
    refine wpAny_bind (wpAny_mono h₁' (fun _ s₂ h₂ => wpAny_bind (wpAny_mono h₂ (fun ok s₃ h₃ => ?_) fun _ _ h' => h')) fun _ _ h' => h')
    cases ok with
    | false => exact wpAny_pure ⟨rfl, h₃⟩
    | true =>
      exact wpAny_bind (wpAny_bind (wpAny_mono h₃ (fun x s₄ h₄ => wpAny_bind (wpAny_mono h₄ (fun _ s₅ h₅ => wpAny_pure (wpAny_pure ⟨rfl, h₅⟩)) fun _ _ h' => h')) fun _ _ h' => h'))
/-- the second clause's start -/
theorem compStart1_ok (h0 : codeAny (model prog w) A (.compLoop (.ListComp elt [⟨t0, i0, ifs0, 0⟩, ⟨t1, i1, ifs1, 0⟩] scope pos) 1 it acc env) R s)
    (h : wpAny (model prog w) A (pyIter it) (fun it' s' => codeAny (model prog w) A (.compLoop (.ListComp elt [⟨t0, i0, ifs0, 0⟩, ⟨t1, i1, ifs1, 0⟩] scope pos) 1 it' acc env) R s')
      (notedBy (model prog w) A env fun x s' => R (.error x) s') s) :
    codeAny (model prog w) A (.compStart (.ListComp elt [⟨t0, i0, ifs0, 0⟩, ⟨t1, i1, ifs1, 0⟩] scope pos) 1 it acc env) R s := by
  refine codeAny_of_tree ?_
  show wpAny _ _ ((compStart (.ListComp elt [⟨t0, i0, ifs0, 0⟩, ⟨t1, i1, ifs1, 0⟩] scope pos) 1 it acc env).onRaise (fun x => do noteFrame x env; standAt theWindowsPlace)) _ _ s
  refine wpAny_notedAt ?_
  unfold compStart
  show wpAny _ _ (ask >>= _) _ _ s
  refine wpAny_bind (wpAny_askSetting (wpAny_ite ?_))
  split
  · first
      | exact wpAny_bind (wpAny_pure (wpAny_pure (And.intro rfl h0)))
      | exact wpAny_pure (And.intro rfl h0)
  · first
      | exact wpAny_bind (wpAny_rule (wpAny_bind (wpAny_standAt (wpAny_bind (wpAny_mono h (fun it' s' h' => wpAny_pure (And.intro rfl h')) fun _ _ x => x)))))
      | (refine wpAny_bind (wpAny_rule ?_); show wpAny _ _ (standAt i1.pos >>= _) _ _ s; exact wpAny_bind (wpAny_standAt (wpAny_bind (wpAny_mono h (fun it' s' h' => wpAny_pure (And.intro rfl h')) fun _ _ x => x))))
end

theorem wipe_out {σ : St} {i : Nat} : ∀ {vs : List Nat}, i ∉ vs → (wipe σ vs)[i]? = σ[i]?
  | [], _ => rfl
  | v :: vs, h => by
    have h1 : v ≠ i := fun e => h (by rw [e]; exact List.mem_cons_self)
    have h2 : i ∉ vs := fun m => h (List.mem_cons_of_mem _ m)
    unfold wipe
    rw [List.getElem?_set_ne h1]
    exact wipe_out h2
section
variable {X : Cx}
/-- [elt for tg in iter if .. for tg1 in iter1 if ..]: behind the first clause's store and tests the second source's own loop, from which Nx is reached. vs: the block's names; vs1: those of the second target -/
def tLc2 (wi : TI) (g : TG) (tt : TT) (wi1 : TI) (g1 : TG) (tt1 : TT) (te : TE) (vs vs1 : List Nat) : TE := fun σ H Q => wi σ H fun J H1 => ∀ D, H1 D = none → ∃ W : Nat → Nat → Hp → Prop, (∃ m, W 0 m (upd H1 D (.lst []))) ∧ ∀ i m H, W i m H →
  (J.stop i H ∧ Q (.ref D) H) ∨ (J.go i H ∧ ∃ Nx : Hp → Prop, (∀ H', Nx H' → ∃ m', m' < m ∧ W (i + 1) m' H') ∧ ∀ x H', J.yld i H x H' → g x (wipe σ vs) H' fun σ2 H2 => wipe σ2 vs = wipe σ vs ∧ tt σ2 H2 fun b H3 =>
    if b = true then wi1 σ2 H3 fun J1 H4 => ∃ W1 : Nat → Nat → Hp → Prop, (∃ m, W1 0 m H4) ∧ ∀ j k H, W1 j k H →
      (J1.stop j H ∧ Nx H) ∨ (J1.go j H ∧ ∃ Nx1 : Hp → Prop, (∀ H', Nx1 H' → ∃ k', k' < k ∧ W1 (j + 1) k' H') ∧ ∀ x H', J1.yld j H x H' → g1 x (wipe σ2 vs1) H' fun σ3 H5 => wipe σ3 vs1 = wipe σ2 vs1 ∧ tt1 σ3 H5 fun b H6 =>
        if b = true then te σ3 H6 fun y H7 => ∃ acc, H7 D = some (.lst acc) ∧ acc.length < sizeLine ∧ Nx1 (upd H7 D (.lst (acc ++ [y]))) else Nx1 H6)
    else Nx H3)
theorem lc2_core {pins : List (Addr × Obj)} {s : Shared} {σ : St} {H : Hp} {Q : VK} {elt tg iter tg1 iter1 : Expr} {ifs ifs1 : List Expr} {scope : Scope} {own : List (Str × Nat)} {vs1 : List Nat} {pos pos' : Pos} {wi wi1 : TI} {g g1 : TG} {tt tt1 : TT} {te : TE} {use : Option (Value → Sem Unit)} {Qf : Value → Shared → Prop}
    (hc : X.calm = true) (hN : X.N.Nodup) (I : Inv X pins σ H s) (hi : PI X tg iter wi) (ok : BlkOk X.N X.env.scope scope own) (hv : ∀ i ∈ vs1, i ∈ own.map (·.2))
    (hg : ∀ (s : Shared) (H : Hp) (C : Addr) (cl : List (Str × Addr)) (fp : List Addr), PG (X.blk s H scope (compEnvC scope cl C X.env) fp) tg g) (ht : ∀ (s : Shared) (H : Hp) (C : Addr) (cl : List (Str × Addr)) (fp : List Addr), PTs (X.blk s H scope (compEnvC scope cl C X.env) fp) ifs tt)
    (he : ∀ (s : Shared) (H : Hp) (C : Addr) (cl : List (Str × Addr)) (fp : List Addr), PE (X.blk s H scope (compEnvC scope cl C X.env) fp) elt te) (hs : ∀ x, foldedSetIterable iter X.env x = pure x)
    (hi1 : ∀ (s : Shared) (H : Hp) (C : Addr) (cl : List (Str × Addr)) (fp : List Addr), PI (X.blk s H scope (compEnvC scope cl C X.env) fp) tg1 iter1 wi1)
    (hg1 : ∀ (s : Shared) (H : Hp) (C : Addr) (cl : List (Str × Addr)) (fp : List Addr), PG (X.blk s H scope (compEnvC scope cl C X.env) fp) tg1 g1)
    (ht1 : ∀ (s : Shared) (H : Hp) (C : Addr) (cl : List (Str × Addr)) (fp : List Addr), PTs (X.blk s H scope (compEnvC scope cl C X.env) fp) ifs1 tt1)
    (hs1 : ∀ env x, foldedSetIterable iter1 env x = pure x)
    (h : tLc2 wi g tt wi1 g1 tt1 te (own.map (·.2)) vs1 σ H Q)
    (hRR : ∀ D C s' m H', Inv X pins σ H' s' → Q (.ref D) H' → s'.heap.Ns C m → FpOk X pins H' C → compPost (model X.prog X.w) X.A X.xe use Qf (.ref D) C (.ok .next) s') :
    wpAny (model X.prog X.w) X.A (comprehension (.ListComp elt [⟨tg, iter, ifs, 0⟩, ⟨tg1, iter1, ifs1, 0⟩] scope pos) scope X.env pos' (newList []) false (eval iter X.env) use) Qf X.xe s := by
  have hfree : ∀ y ∈ scope.names, y.2 = .free → ∃ c, X.env.cells.lookup y.1 = some c := fun y hy e => by
    rcases ok.free y hy e with k | k
    · exact I.ok.has _ (.inl k)
    · exact I.ok.has _ (.inr k)
  refine wpAny_comprehension_free (use := use) rfl hs (closure_ok hfree) ok.kind (fun y hy e => by rw [ok.uniq y hy, e])
    (thn (hi pins s σ H _ I h) fun xv s1 hx => thn hx fun itv s2 h2 => ?_)
  obtain ⟨it, fp, tn, J, H2, e, I2, T, st2, f2, q⟩ := h2
  subst e
  refine wpAny_newObj_type (newEnv_comp ?_) (by show 0 ≤ sizeLine; decide)
  generalize hD : s2.heap.objs.size = D
  have hDn : H2 D = none := I2.hok.fresh (Nat.le_of_eq hD)
  obtain ⟨W, ⟨m0, w0⟩, turn⟩ := q D hDn
  -- the new list
  generalize hs3 : ({ s2 with heap := s2.heap.push { cls := .type "list", data := .seq ([] : List Value).toArray } } : Shared) = s3
  have I3 : Inv X pins σ (upd H2 D (.lst [])) s3 := by
    rw [← hs3]
    refine I2.laid (t' := s2.toks) (fun b o e => Heap.get?_push_of_some _ e) (Nat.le_of_eq hD) ⟨Nat.zero_le _, [], 0, .nil, ?_⟩
    rw [← hD]
    exact Heap.get?_push_size _ rfl
  have h3 : s3.heap = s2.heap.push { cls := .type "list", data := .seq ([] : List Value).toArray } := by rw [← hs3]
  have sz : ∀ b ∈ fp, b < s2.heap.objs.size := fun b hb => by
    obtain ⟨o, e, _⟩ := T.obj _ _ st2 b hb
    exact Heap.lt_size e
  have f3 : ∀ b ∈ fp, FpOk X pins (upd H2 D (.lst [])) b ∧ b < s3.heap.objs.size := fun b hb => by
    have hlt := sz b hb
    refine ⟨⟨?_, (f2 b hb).2⟩, by rw [h3, Heap.size_push]; exact Nat.lt_succ_of_lt hlt⟩
    rw [upd_ne (by rw [← hD]; exact Nat.ne_of_lt hlt)]
    exact (f2 b hb).1
  have st3 : tn 0 s3.heap := T.keep _ _ _ st2 fun b _ o e => by rw [h3]; exact Heap.get?_push_of_some _ e
  have I4 := block_start I3 ok hN f3
  have pg := hg s3 (upd H2 D (.lst [])) s3.heap.objs.size (cellsFrom (s3.heap.objs.size + 1) scope.names (cloFrom X.env.cells scope.names [])) fp
  have pt := ht s3 (upd H2 D (.lst [])) s3.heap.objs.size (cellsFrom (s3.heap.objs.size + 1) scope.names (cloFrom X.env.cells scope.names [])) fp
  have pe := he s3 (upd H2 D (.lst [])) s3.heap.objs.size (cellsFrom (s3.heap.objs.size + 1) scope.names (cloFrom X.env.cells scope.names [])) fp
  have pi1 := hi1 s3 (upd H2 D (.lst [])) s3.heap.objs.size (cellsFrom (s3.heap.objs.size + 1) scope.names (cloFrom X.env.cells scope.names [])) fp
  have pg1 := hg1 s3 (upd H2 D (.lst [])) s3.heap.objs.size (cellsFrom (s3.heap.objs.size + 1) scope.names (cloFrom X.env.cells scope.names [])) fp
  have pt1 := ht1 s3 (upd H2 D (.lst [])) s3.heap.objs.size (cellsFrom (s3.heap.objs.size + 1) scope.names (cloFrom X.env.cells scope.names [])) fp
  show codeAny _ _ (.compStart (.ListComp elt [⟨tg, iter, ifs, 0⟩, ⟨tg1, iter1, ifs1, 0⟩] scope pos) 0 (.ref it) (.ref D) (compEnvC scope (cellsFrom (s3.heap.objs.size + 1) scope.names (cloFrom X.env.cells scope.names [])) s3.heap.objs.size X.env)) (compPost (model X.prog X.w) X.A X.xe use Qf (.ref D) s3.heap.objs.size) { s3 with heap := pushCells (s3.heap.push { cls := .type "dict", data := .dict #[] }) scope.names }
  have nfp : ∀ b ∈ fp, (upd H2 D (.lst [])) b = none := fun b hb => (f3 b hb).1.1
  generalize hce : compEnvC scope (cellsFrom (s3.heap.objs.size + 1) scope.names (cloFrom X.env.cells scope.names [])) s3.heap.objs.size X.env = ce at I4 pg pt pe pi1 pg1 pt1 ⊢
  have cL : ce.locals = s3.heap.objs.size := by subst hce; rfl
  generalize hH3 : upd H2 D (.lst []) = H3 at I3 I4 pg pt pe pi1 pg1 pt1 w0 nfp f3
  generalize hs4 : ({ s3 with heap := pushCells (s3.heap.push { cls := .type "dict", data := .dict #[] }) scope.names } : Shared) = s4 at I4 ⊢
  have st4 : tn 0 s4.heap := T.keep _ _ _ st3 fun b _ o e => by rw [← hs4]; exact pushCells_keeps _ _ _ _ (Heap.get?_push_of_some _ e)
  have stat : ∀ {σ' : St} {H' : Hp} {s' : Shared}, Inv (X.blk s3 H3 scope ce fp) [] σ' H' s' → (∀ b ∈ fp, H' b = none) → ∀ b ∈ fp, FpOk (X.blk s3 H3 scope ce fp) [] H' b := fun {σ' H' s'} I' hn b hb =>
    ⟨hn b hb, (I'.ok.exf b hb).1, I'.ok.exfs b hb, .inl hb, fun x c e => (I'.ok.exf b hb).2 x c e, fun p hp => absurd (show p ∈ ([] : List (Addr × Obj)) ++ [] from hp) (by simp)⟩
  have loop : codeAny (model X.prog X.w) X.A (.compLoop (.ListComp elt [⟨tg, iter, ifs, 0⟩, ⟨tg1, iter1, ifs1, 0⟩] scope pos) 0 (.ref it) (.ref D) ce) (compPost (model X.prog X.w) X.A X.xe use Qf (.ref D) s3.heap.objs.size) s4 := by
    refine compLoop2_out (hs1 ce) (fun n s' => ∃ i H', Inv (X.blk s3 H3 scope ce fp) [] (wipe σ (own.map (·.2))) H' s' ∧ tn i s'.heap ∧ (∀ b ∈ fp, H' b = none) ∧ W i n H') ?_ m0 ⟨0, H3, I4, st4, nfp, w0⟩
    rintro n s5 ⟨i, H5, I5, st5, n5, w5⟩
    rcases turn i n H5 w5 with ⟨stop, qq⟩ | ⟨go, Nx, hNx, step⟩
    · have td := T.done (X.blk s3 H3 scope ce fp) rfl rfl rfl hc i [] s5 _ H5 (fun _ _ => False) I5 (stat I5 n5) st5 stop
      refine thnF td fun r s6 ⟨hr, I6⟩ => ?_
      subst hr
      -- back in the def's context
      have I7 : Inv X pins σ H5 s6 := I3.call' (ch := fp) I6.os I6.base I6.hok I6.bare fun b hb => ⟨(f3 b hb).1.2.2.2.1, (f3 b hb).1.2.1, (f3 b hb).1.2.2.2.2.1, (f3 b hb).1.2.2.2.2.2⟩
      have nC : H5 s3.heap.objs.size = none := by
        have z : H5 ce.locals = none := I6.free
        rw [cL] at z
        exact z
      obtain ⟨m, hn, _⟩ := I6.loc
      have hn : s6.heap.Ns ce.locals m := hn
      rw [cL] at hn
      exact hRR D s3.heap.objs.size s6 m H5 I7 qq hn (I3.fpOk (Nat.le_refl _) nC)
    · have ti := T.item (X.blk s3 H3 scope ce fp) rfl rfl rfl hc i [] s5 _ H5 (fun _ _ => False) I5 (stat I5 n5) st5 go
      refine thnF ti fun r s6 ⟨u, hr, h6⟩ => ?_
      subst hr
      refine thnF h6 fun _ s7 ⟨x, H7, I7, r7, y7, st7, n7⟩ => ?_
      have I7' := I7.pinned (stat I7 n7) (T.obj _ _ st7)
      refine thnF (pg _ s7 _ H7 x u _ I7' r7 (step x H7 y7)) fun _ s8 ⟨σ8, H8, I8, hw8, q8⟩ => ?_
      refine thnF (pt _ s8 σ8 H8 _ I8 q8) fun b s9 ⟨H9, I9, q9⟩ => ?_
      -- the turn's end, from any slots that know what the block knew at its start
      have fin : ∀ {σ9 : St} {s' : Shared} {H' : Hp}, Inv (X.blk s3 H3 scope ce fp) ([] ++ pinsAt fp s7.heap) σ9 H' s' → (wipe σ (own.map (·.2))).length = σ9.length → (∀ (j : Nat) v, (wipe σ (own.map (·.2)))[j]? = some (some v) → σ9[j]? = some (some v)) → Nx H' →
          ∃ m, m < n ∧ ∃ i H', Inv (X.blk s3 H3 scope ce fp) [] (wipe σ (own.map (·.2))) H' s' ∧ tn i s'.heap ∧ (∀ b ∈ fp, H' b = none) ∧ W i m H' := fun {σ9 s' H'} I' hl hk nx => by
        obtain ⟨m', hm, w'⟩ := hNx H' nx
        have pin' : ∀ b ∈ fp, ∀ o, s7.heap.get? b = some o → s'.heap.get? b = some o ∧ H' b = none := fun b hb o e =>
          let z := I'.pin (b, o) (List.mem_append_right _ (List.mem_append_right _ (mem_pinsAt hb e)))
          ⟨z.1, z.2.1⟩
        refine ⟨m', hm, i + 1, H', (I'.unpinned (pins := [])).weak hl hk, T.keep _ _ _ st7 fun b hb o e => (pin' b hb o e).1, fun b hb => ?_, w'⟩
        obtain ⟨o, e, _⟩ := T.obj _ _ st7 b hb
        exact (pin' b hb o e).2
      have hl8 : (wipe σ (own.map (·.2))).length = σ8.length := by rw [← hw8, wipe_length]
      have hk8 : ∀ (j : Nat) v, (wipe σ (own.map (·.2)))[j]? = some (some v) → σ8[j]? = some (some v) := fun j v e => by
        rw [← hw8] at e
        exact (wipe_some e).1
      have hk9 : ∀ (j : Nat) v, (wipe σ (own.map (·.2)))[j]? = some (some v) → (wipe σ8 vs1)[j]? = some (some v) := fun j v e => by
        rw [← hw8] at e
        obtain ⟨e1, e2⟩ := wipe_some e
        rw [wipe_out fun z => e2 (hv j z)]
        exact e1
      cases b with
      | false =>
        simp only [Bool.false_eq_true, if_false] at q9 ⊢
        exact fin I9 hl8 hk8 q9
      | true =>
        simp only [if_true] at q9 ⊢
        refine thnF (pi1 _ s9 σ8 H9 _ I9 q9) fun xv s10 hx => thnF hx fun itv s11 h11 => ?_
        obtain ⟨it1, fp1, tn1, J1, H11, e1, I11, T1, st11, f11, W1, ⟨m1, w1⟩, turn1⟩ := h11
        subst e1
        -- the inner loop
        have stat1 : ∀ {H' : Hp}, (∀ b ∈ fp1, H' b = none) → ∀ b ∈ fp1, FpOk (X.blk s3 H3 scope ce fp) ([] ++ pinsAt fp s7.heap) H' b := fun hn b hb => ⟨hn b hb, (f11 b hb).2⟩
        have loop1 : codeAny (model X.prog X.w) X.A (.compLoop (.ListComp elt [⟨tg, iter, ifs, 0⟩, ⟨tg1, iter1, ifs1, 0⟩] scope pos) 1 (.ref it1) (.ref D) ce)
            (fun r s' => match r with
              | .ok _ => ∃ m, m < n ∧ ∃ i H', Inv (X.blk s3 H3 scope ce fp) [] (wipe σ (own.map (·.2))) H' s' ∧ tn i s'.heap ∧ (∀ b ∈ fp, H' b = none) ∧ W i m H'
              | .error _ => False) s11 := by
          refine compLoop2_in (fun k s' => ∃ j H', Inv (X.blk s3 H3 scope ce fp) ([] ++ pinsAt fp s7.heap) (wipe σ8 vs1) H' s' ∧ tn1 j s'.heap ∧ (∀ b ∈ fp1, H' b = none) ∧ W1 j k H') ?_ m1 ⟨0, H11, I11.weak (wipe_length _ _) (fun j v e => (wipe_some e).1), st11, fun b hb => (f11 b hb).1, w1⟩
          rintro k s12 ⟨j, H12, I12, st12, n12, w12⟩
          rcases turn1 j k H12 w12 with ⟨stop1, nx1⟩ | ⟨go1, Nx1, hNx1, step1⟩
          · refine thnF (T1.done (X.blk s3 H3 scope ce fp) rfl rfl rfl hc j _ s12 (wipe σ8 vs1) H12 (fun _ _ => False) I12 (stat1 n12) st12 stop1) fun r s13 ⟨hr, I13⟩ => ?_
            subst hr
            exact fin I13 (hl8.trans (wipe_length σ8 vs1).symm) hk9 nx1
          · refine thnF (T1.item (X.blk s3 H3 scope ce fp) rfl rfl rfl hc j _ s12 (wipe σ8 vs1) H12 (fun _ _ => False) I12 (stat1 n12) st12 go1) fun r s13 ⟨u1, hr, h13⟩ => ?_
            subst hr
            refine thnF h13 fun _ s14 ⟨x1, H14, I14, r14, y14, st14, n14⟩ => ?_
            have I14' := I14.pinned (stat1 n14) (T1.obj _ _ st14)
            refine thnF (pg1 _ s14 (wipe σ8 vs1) H14 x1 u1 _ I14' r14 (step1 x1 H14 y14)) fun _ s15 ⟨σ15, H15, I15, hw15, q15⟩ => ?_
            refine thnF (pt1 _ s15 σ15 H15 _ I15 q15) fun b1 s16 ⟨H16, I16, q16⟩ => ?_
            have fin1 : ∀ {s' : Shared} {H' : Hp}, Inv (X.blk s3 H3 scope ce fp) (([] ++ pinsAt fp s7.heap) ++ pinsAt fp1 s14.heap) σ15 H' s' → Nx1 H' → ∃ m, m < k ∧ ∃ j H', Inv (X.blk s3 H3 scope ce fp) ([] ++ pinsAt fp s7.heap) (wipe σ8 vs1) H' s' ∧ tn1 j s'.heap ∧ (∀ b ∈ fp1, H' b = none) ∧ W1 j m H' := fun {s' H'} I' nx => by
              obtain ⟨m', hm, w'⟩ := hNx1 H' nx
              have pin' : ∀ b ∈ fp1, ∀ o, s14.heap.get? b = some o → s'.heap.get? b = some o ∧ H' b = none := fun b hb o e =>
                let z := I'.pin (b, o) (List.mem_append_right _ (List.mem_append_right _ (mem_pinsAt hb e)))
                ⟨z.1, z.2.1⟩
              refine ⟨m', hm, j + 1, H', I'.unpinned.weak (by rw [← hw15, wipe_length]) (fun j v e => by rw [← hw15] at e; exact (wipe_some e).1), T1.keep _ _ _ st14 fun b hb o e => (pin' b hb o e).1, fun b hb => ?_, w'⟩
              obtain ⟨o, e, _⟩ := T1.obj _ _ st14 b hb
              exact (pin' b hb o e).2
            cases b1 with
            | false =>
              simp only [Bool.false_eq_true, if_false] at q16 ⊢
              exact fin1 I16 q16
            | true =>
              simp only [if_true] at q16 ⊢
              refine thnF (pe _ s16 σ15 H16 _ I16 q16) fun z s17 ⟨yv, H17, I17, r17, acc, hD17, hz17, nx⟩ => ?_
              exact app_ok (X := X.blk s3 H3 scope ce fp) I17 hD17 hz17 r17 fun s18 I18 => fin1 I18 nx
        exact compStart1_ok loop1 (T1.self X.A 0 _ _ _ st11 loop1)
  exact codeAny_compStart_list loop (T.self X.A 0 _ _ _ st4 loop)
/-- as a value -/
theorem pe_lc2 {elt tg iter tg1 iter1 : Expr} {ifs ifs1 : List Expr} {scope : Scope} {own : List (Str × Nat)} {vs1 : List Nat} {pos : Pos} {wi wi1 : TI} {g g1 : TG} {tt tt1 : TT} {te : TE} (hc : X.calm = true) (hN : X.N.Nodup) (hi : PI X tg iter wi) (ok : BlkOk X.N X.env.scope scope own) (hv : ∀ i ∈ vs1, i ∈ own.map (·.2))
    (hg : ∀ (s : Shared) (H : Hp) (C : Addr) (cl : List (Str × Addr)) (fp : List Addr), PG (X.blk s H scope (compEnvC scope cl C X.env) fp) tg g) (ht : ∀ (s : Shared) (H : Hp) (C : Addr) (cl : List (Str × Addr)) (fp : List Addr), PTs (X.blk s H scope (compEnvC scope cl C X.env) fp) ifs tt)
    (hi1 : ∀ (s : Shared) (H : Hp) (C : Addr) (cl : List (Str × Addr)) (fp : List Addr), PI (X.blk s H scope (compEnvC scope cl C X.env) fp) tg1 iter1 wi1)
    (hg1 : ∀ (s : Shared) (H : Hp) (C : Addr) (cl : List (Str × Addr)) (fp : List Addr), PG (X.blk s H scope (compEnvC scope cl C X.env) fp) tg1 g1) (ht1 : ∀ (s : Shared) (H : Hp) (C : Addr) (cl : List (Str × Addr)) (fp : List Addr), PTs (X.blk s H scope (compEnvC scope cl C X.env) fp) ifs1 tt1)
    (he : ∀ (s : Shared) (H : Hp) (C : Addr) (cl : List (Str × Addr)) (fp : List Addr), PE (X.blk s H scope (compEnvC scope cl C X.env) fp) elt te) (hs : ∀ x, foldedSetIterable iter X.env x = pure x := by intro _; rfl) (hs1 : ∀ env x, foldedSetIterable iter1 env x = pure x := by intro _ _; rfl) :
    PE X (.ListComp elt [⟨tg, iter, ifs, 0⟩, ⟨tg1, iter1, ifs1, 0⟩] scope pos) (tLc2 wi g tt wi1 g1 tt1 te (own.map (·.2)) vs1) := by
  intro pins s σ H Q I h
  rw [eval_ListComp]
  refine lc2_core hc hN I hi ok hv hg ht he hs hi1 hg1 ht1 hs1 h fun D C s' m H' I' q hn f => ⟨m, hn, fun h'' sb => ?_⟩
  obtain ⟨f0, f1, f2, f3, f4, f5⟩ := f
  exact ⟨.ref D, H', I'.turned (t' := s'.toks) (fun b o hb e => (sb.2 b hb).trans e) f0 f1 f3 f4 f5, rfl, q⟩
end
end L2

namespace L2
open PySem PySem.Spec PyProof.Rows

/-! ### lists of pairs as tables -/
section
variable {κ : Type} [DecidableEq κ]
def valV (kvs : List (κ × V)) (k : κ) : Option V := (kvs.find? fun kv => decide (kv.1 = k)).map (·.2)
/-- in its place, or at the end -/
def putK (kvs : List (κ × V)) (k : κ) (v : V) : List (κ × V) :=
  if (kvs.any fun kv => decide (kv.1 = k)) = true then kvs.map (fun kv => if kv.1 = k then (kv.1, v) else kv) else kvs ++ [(k, v)]
def dropK (kvs : List (κ × V)) (k : κ) : List (κ × V) := kvs.filter fun kv => decide (kv.1 ≠ k)

theorem valV_pos {p : κ × V} {r : List (κ × V)} {k : κ} (e : p.1 = k) : valV (p :: r) k = some p.2 := by simp [valV, List.find?_cons, e]
theorem valV_neg {p : κ × V} {r : List (κ × V)} {k : κ} (e : ¬ p.1 = k) : valV (p :: r) k = valV r k := by simp [valV, List.find?_cons, e]
theorem valV_any (k : κ) : ∀ kvs : List (κ × V), (kvs.any fun kv => decide (kv.1 = k)) = (valV kvs k).isSome
  | [] => rfl
  | p :: r => by
    rw [List.any_cons]
    by_cases e : p.1 = k
    · simp only [valV_pos e, decide_eq_true e, Bool.true_or, Option.isSome_some]
    · rw [valV_neg e, decide_eq_false e, Bool.false_or]; exact valV_any k r
theorem valV_map (k j : κ) (y : V) : ∀ kvs : List (κ × V), valV (kvs.map fun kv => if kv.1 = k then (kv.1, y) else kv) j = (valV kvs j).map fun x => if j = k then y else x
  | [] => rfl
  | p :: r => by
    have ih := valV_map k j y r
    rw [List.map_cons]
    by_cases h : p.1 = k
    · rw [if_pos h]
      by_cases e : p.1 = j
      · rw [valV_pos (p := (p.1, y)) e, valV_pos e, Option.map_some, if_pos (e.symm.trans h)]
      · rw [valV_neg (p := (p.1, y)) e, valV_neg e, ih]
    · rw [if_neg h]
      by_cases e : p.1 = j
      · rw [valV_pos (p := p) e, valV_pos e, Option.map_some, if_neg (fun z => h (e.trans z))]
      · rw [valV_neg (p := p) e, valV_neg e, ih]
theorem valV_snoc (k j : κ) (y : V) : ∀ kvs : List (κ × V), valV kvs k = none → valV (kvs ++ [(k, y)]) j = if j = k then some y else valV kvs j
  | [], _ => by
    by_cases e : k = j
    · rw [if_pos e.symm]; exact valV_pos (p := (k, y)) e
    · rw [if_neg (fun z => e z.symm)]; exact valV_neg (p := (k, y)) e
  | p :: r, hn => by
    rw [List.cons_append]
    have hk : ¬ p.1 = k := fun z => by rw [valV_pos z] at hn; cases hn
    rw [valV_neg hk] at hn
    have ih := valV_snoc k j y r hn
    by_cases e : p.1 = j
    · rw [valV_pos e, valV_pos e, if_neg (fun z => hk (e.trans z))]
    · rw [valV_neg e, valV_neg e, ih]
theorem valV_put (kvs : List (κ × V)) (k j : κ) (y : V) : valV (putK kvs k y) j = if j = k then some y else valV kvs j := by
  unfold putK
  by_cases a : (kvs.any fun kv => decide (kv.1 = k)) = true
  · rw [if_pos a, valV_map]
    rw [valV_any] at a
    by_cases e : j = k
    · obtain ⟨x, hx⟩ := Option.isSome_iff_exists.mp a
      rw [if_pos e, e, hx, Option.map_some, if_pos rfl]
    · rw [if_neg e]
      cases valV kvs j with
      | none => rfl
      | some x => rw [Option.map_some, if_neg e]
  · rw [if_neg a]
    refine valV_snoc k j y kvs ?_
    rw [valV_any] at a
    cases q : valV kvs k with
    | none => rfl
    | some x => rw [q] at a; exact (a rfl).elim
theorem RelO.isSome_eq {o : Option V} {u : Option Value} (r : RelO o u) : o.isSome = u.isSome := by
  cases o with
  | none => cases u with
    | none => rfl
    | some _ => exact (show False from r).elim
  | some _ => cases u with
    | none => exact (show False from r).elim
    | some _ => rfl
theorem RelO.getD {o : Option V} {u : Option Value} {d : V} {d' : Value} (r : RelO o u) (rd : RelV d d') : RelV (o.getD d) (u.getD d') := by
  cases o with
  | none => cases u with
    | none => exact rd
    | some _ => exact (show False from r).elim
  | some _ => cases u with
    | none => exact (show False from r).elim
    | some _ => exact r

/-- raw tables of the same keys -/
theorem KV.val {kvs : List (κ × V)} {vs : List (κ × Value)} (r : KV kvs vs) (k : κ) : RelO (valV kvs k) (valueAt vs k) := by
  unfold KV at r
  induction r with
  | nil => exact True.intro
  | @cons p q ps qs h t ih =>
    obtain ⟨h1, h2⟩ := h
    by_cases e : p.1 = k
    · have e' : q.1 = k := h1.symm.trans e
      have b : valueAt (q :: qs) k = some q.2 := by simp [valueAt, List.find?_cons, e']
      rw [valV_pos e, b]; exact h2
    · have e' : ¬ q.1 = k := fun z => e (h1.trans z)
      have b : valueAt (q :: qs) k = valueAt qs k := by simp [valueAt, List.find?_cons, e']
      rw [valV_neg e, b]; exact ih
theorem KV.any {kvs : List (κ × V)} {vs : List (κ × Value)} (r : KV kvs vs) (k : κ) : (kvs.any fun kv => decide (kv.1 = k)) = vs.any fun kv => decide (kv.1 = k) := by
  unfold KV at r
  induction r with
  | nil => rfl
  | cons h t ih => rw [List.any_cons, List.any_cons, ih, h.1]
theorem KV.repl {kvs : List (κ × V)} {vs : List (κ × Value)} (r : KV kvs vs) (k : κ) {y : V} {u : Value} (ry : RelV y u) :
    KV (kvs.map fun kv => if kv.1 = k then (kv.1, y) else kv) (vs.map fun kv => if kv.1 = k then (kv.1, u) else kv) := by
  unfold KV at r ⊢
  induction r with
  | nil => exact .nil
  | @cons p q ps qs h t ih =>
    rw [List.map_cons, List.map_cons]
    refine .cons ?_ ih
    obtain ⟨h1, h2⟩ := h
    by_cases e : p.1 = k
    · rw [if_pos e, if_pos (h1.symm.trans e)]; exact ⟨h1, ry⟩
    · rw [if_neg e, if_neg (fun z => e (h1.trans z))]; exact ⟨h1, h2⟩
theorem KV.put {kvs : List (κ × V)} {vs : List (κ × Value)} (r : KV kvs vs) (k : κ) {y : V} {u : Value} (ry : RelV y u) : KV (putK kvs k y) (stored vs k u) := by
  unfold putK stored
  rw [r.any k]
  by_cases e : (vs.any fun kv => decide (kv.1 = k)) = true
  · rw [if_pos e, if_pos e]; exact r.repl k ry
  · rw [if_neg e, if_neg e]; exact Paired.snoc r ⟨rfl, ry⟩
theorem KV.drop {kvs : List (κ × V)} {vs : List (κ × Value)} (r : KV kvs vs) (k : κ) : KV (dropK kvs k) (without vs k) := by
  unfold KV at r ⊢
  unfold dropK without
  induction r with
  | nil => exact .nil
  | @cons p q ps qs h t ih =>
    obtain ⟨h1, h2⟩ := h
    rw [List.filter_cons, List.filter_cons]
    by_cases e : p.1 = k
    · have a : ¬ decide (p.1 ≠ k) = true := by simp [e]
      have b : ¬ decide (q.1 ≠ k) = true := by simp [h1.symm.trans e]
      rw [if_neg a, if_neg b]; exact ih
    · have e' : ¬ q.1 = k := fun z => e (h1.trans z)
      have a : decide (p.1 ≠ k) = true := by simp [e]
      have b : decide (q.1 ≠ k) = true := by simp [e']
      rw [if_pos a, if_pos b]; exact .cons ⟨h1, h2⟩ ih
theorem KV.keys {kvs : List (κ × V)} {vs : List (κ × Value)} (r : KV kvs vs) : kvs.map (·.1) = vs.map (·.1) := by
  unfold KV at r
  induction r with
  | nil => rfl
  | cons h t ih => rw [List.map_cons, List.map_cons, ih, h.1]
theorem KV.length {kvs : List (κ × V)} {vs : List (κ × Value)} (r : KV kvs vs) : kvs.length = vs.length := Paired.length r
end


/-! ### a tracked dict, its keys ints and texts or tuples of these -/
/-- raw entries of a dict with tuple keys -/
abbrev KT (H : Hp) : List (List Key × V) → List (List Key × Addr × Value) → Prop := Paired fun p q => p.1 = q.1 ∧ H q.2.1 = some (.tup (p.1.map kV)) ∧ RelV p.2 q.2.2
theorem KT.val {H : Hp} {kvs : List (List Key × V)} {xs : List (List Key × Addr × Value)} (r : KT H kvs xs) (k : List Key) : RelO (valV kvs k) ((atKey xs k).map (·.2)) := by
  induction r with
  | nil => exact True.intro
  | @cons p q ps qs h t ih =>
    obtain ⟨h1, _, h2⟩ := h
    by_cases e : p.1 = k
    · have e' : q.1 = k := h1.symm.trans e
      have b : atKey (q :: qs) k = some q.2 := by simp [atKey, List.find?_cons, e']
      rw [valV_pos e, b]; exact h2
    · have e' : ¬ q.1 = k := fun z => e (h1.trans z)
      have b : atKey (q :: qs) k = atKey qs k := by simp [atKey, List.find?_cons, e']
      rw [valV_neg e, b]; exact ih
theorem KT.repl {H : Hp} {kvs : List (List Key × V)} {xs : List (List Key × Addr × Value)} (r : KT H kvs xs) (k : List Key) {y : V} {u : Value} (ry : RelV y u) :
    KT H (kvs.map fun kv => if kv.1 = k then (kv.1, y) else kv) (xs.map (putAt k u)) := by
  induction r with
  | nil => exact .nil
  | @cons p q ps qs h t ih =>
    rw [List.map_cons, List.map_cons]
    refine .cons ?_ ih
    obtain ⟨h1, h2, h3⟩ := h
    unfold putAt
    by_cases e : p.1 = k
    · rw [if_pos e, if_pos (h1.symm.trans e)]; exact ⟨h1, h2, ry⟩
    · rw [if_neg e, if_neg (fun z => e (h1.trans z))]; exact ⟨h1, h2, h3⟩
theorem KT.put {H : Hp} {kvs : List (List Key × V)} {xs : List (List Key × Addr × Value)} (r : KT H kvs xs) (k : List Key) {b : Addr} {y : V} {u : Value} (hb : H b = some (.tup (k.map kV))) (ry : RelV y u) :
    KT H (putK kvs k y) (storedH xs k b u) := by
  have e : (kvs.any fun kv => decide (kv.1 = k)) = (atKey xs k).isSome := by
    rw [valV_any, (r.val k).isSome_eq, Option.isSome_map]
  unfold putK storedH
  rw [e]
  by_cases q : (atKey xs k).isSome = true
  · rw [if_pos q, if_pos q]; exact r.repl k ry
  · rw [if_neg q, if_neg q]; exact Paired.snoc r ⟨rfl, hb, ry⟩
theorem KT.keeps {H H' : Hp} {kvs : List (List Key × V)} {xs : List (List Key × Addr × Value)} (r : KT H kvs xs) (ht : ∀ b ys, H b = some (.tup ys) → H' b = some (.tup ys)) : KT H' kvs xs :=
  Paired.mapP r fun _ _ z => ⟨z.1, ht _ _ z.2.1, z.2.2⟩

section
variable {P : Program} {w : World} {H : Hp} {h : Heap} {a : Addr}
end

/-- what the dict at a holds at the key y -/
def DGet (H : Hp) (a : Addr) (y : V) (r : Option V) : Prop :=
  (∃ kvs k, Rd H a (.dK kvs) ∧ y = kV k ∧ r = valV kvs k) ∨ ∃ kvs k b, Rd H a (.dT kvs) ∧ y = .ref b ∧ H b = some (.tup (k.map kV)) ∧ r = valV kvs k
/-- the heap behind a[y] = v -/
def DPut (H : Hp) (a : Addr) (y v : V) (H' : Hp) : Prop :=
  (∃ kvs k, H a = some (.dK kvs) ∧ y = kV k ∧ kvs.length < sizeLine ∧ H' = upd H a (.dK (putK kvs k v))) ∨
  ∃ kvs k b, H a = some (.dT kvs) ∧ y = .ref b ∧ H b = some (.tup (k.map kV)) ∧ kvs.length < sizeLine ∧ H' = upd H a (.dT (putK kvs k v))
theorem DGet.k {H : Hp} {a : Addr} {kvs : List (Key × V)} {k : Key} (e : H a = some (.dK kvs)) : DGet H a (kV k) (valV kvs k) := .inl ⟨kvs, k, .inl e, rfl, rfl⟩
theorem DGet.t {H : Hp} {a b : Addr} {kvs : List (List Key × V)} {k : List Key} (e : H a = some (.dT kvs)) (eb : H b = some (.tup (k.map kV))) : DGet H a (.ref b) (valV kvs k) := .inr ⟨kvs, k, b, .inl e, rfl, eb, rfl⟩
theorem DPut.k {H : Hp} {a : Addr} {kvs : List (Key × V)} {k : Key} {v : V} (e : H a = some (.dK kvs)) (hl : kvs.length < sizeLine) : DPut H a (kV k) v (upd H a (.dK (putK kvs k v))) := .inl ⟨kvs, k, e, rfl, hl, rfl⟩
theorem DPut.t {H : Hp} {a b : Addr} {kvs : List (List Key × V)} {k : List Key} {v : V} (e : H a = some (.dT kvs)) (eb : H b = some (.tup (k.map kV))) (hl : kvs.length < sizeLine) :
    DPut H a (.ref b) v (upd H a (.dT (putK kvs k v))) := .inr ⟨kvs, k, b, e, rfl, eb, hl, rfl⟩


section
variable {X : Cx} {pins : List (Addr × Obj)} {σ : St} {H : Hp} {s : Shared} {a : Addr} {y v : V} {u r : Value} {o : Option V} {A : Around} {E : Value → Shared → Prop}

/-- a dict's object is replaced -/
theorem d_write {h' : Heap} {t' : Nat} {ob : HO} (I : Inv X pins σ H s) (mu : Mut (H a)) (hs : Heap.SameBut a s.heap h') (he : ∃ q, h'.get? a = some q) (new : ObjOk X.prog X.w (upd H a ob) h' a ob) :
    Inv X pins σ (upd H a ob) { s with heap := h', toks := t' } :=
  I.write (x := a) (e := a) mu (.inl rfl) (fun b q hb z => (hs.2 b hb).trans z) he new
end

section
variable {X : Cx} {pins : List (Addr × Obj)} {σ : St} {H : Hp} {s : Shared} {a : Addr} {kvs : List (Key × V)} {k : Key} {u : Value} {A : Around} {E : Value → Shared → Prop}
end


/-! ### readings and rules -/
section
variable {X : Cx} {o i e value : Expr} {pos pos' tpos : Pos} {td ty tv : TE}
end


/-! ### displays -/
section
variable {X : Cx} {pos : Pos}
end

/-! ### methods -/
/-- a method call o.m(e) of a built-in, with one argument: what must be seen of the text -/
structure M1 (X : Cx) (o : Expr) (m : Str) (apos : Pos) (e : Expr) (cpos : Pos) : Prop where
  base : attributeBase o m X.env (eval o X.env) = eval o X.env
  few : ((backTo cpos (starEach [e] X.env)).all (fun x => !x.1) && (backToKw cpos (keywordEach [] X.env)).all (fun x => x.1.isSome)
    && decide (([e] : List Expr).length + ([] : List Keyword).length + (if ([] : List Keyword).isEmpty then 0 else 1) < 30)) = true
  line : (apos.endLine == cpos.line) = true
  trees : backTo cpos (starEach [e] X.env) = [(false, eval e X.env)]
structure M2 (X : Cx) (o : Expr) (m : Str) (apos : Pos) (e f : Expr) (cpos : Pos) : Prop where
  base : attributeBase o m X.env (eval o X.env) = eval o X.env
  few : ((backTo cpos (starEach [e, f] X.env)).all (fun x => !x.1) && (backToKw cpos (keywordEach [] X.env)).all (fun x => x.1.isSome)
    && decide (([e, f] : List Expr).length + ([] : List Keyword).length + (if ([] : List Keyword).isEmpty then 0 else 1) < 30)) = true
  line : (apos.endLine == cpos.line) = true
  trees : backTo cpos (starEach [e, f] X.env) = [(false, eval e X.env), (false, eval f X.env)]

section
variable {X : Cx} {pins : List (Addr × Obj)} {σ : St} {H : Hp} {s : Shared} {a : Addr} {y d : V} {u r : Value} {o : Option V} {A : Around} {E : Value → Shared → Prop}
end

section
variable {X : Cx} {o e f : Expr} {apos cpos : Pos} {td ty tx : TE}
end

/-! ### dict(d): a copy -/
section
variable {X : Cx} {pins : List (Addr × Obj)} {σ : St} {H : Hp} {s : Shared} {a : Addr} {kvs : List (Key × V)} {A : Around} {E : Value → Shared → Prop}
end


section
variable {X : Cx} {pins : List (Addr × Obj)} {σ : St} {H : Hp} {s : Shared} {a : Addr} {y : V} {u : Value} {A : Around} {E : Value → Shared → Prop}
end
end L2

namespace L2
open PySem PySem.Spec PyProof.Rows

section
variable {prog : Program} {w : World} {A : Around} {E : Value → Shared → Prop}
end

section
variable {X : Cx}
end
end L2

namespace L2
open PySem PySem.Spec PyProof.Rows

section
variable {X : Cx} {pins : List (Addr × Obj)} {σ : St} {H : Hp} {s : Shared} {h' : Heap}
/-- several records of ours have turned -/
theorem Inv.turnedL {t' : Nat} {ch : List Addr} (I : Inv X pins σ H s) (k : ∀ b o, b ∉ ch → s.heap.get? b = some o → h'.get? b = some o) (hf : ∀ b ∈ ch, FpOk X pins H b) : Inv X pins σ H { s with heap := h', toks := t' } := by
  have nit : ∀ b u, H b = some u → b ∉ ch := fun b u e z => by
    have q := (hf b z).1
    rw [q] at e; cases e
  refine I.step (g' := s.gens) (d' := s.drawn) (ch := ch) (fun b hb => ⟨(hf b hb).2.2.2.1, (hf b hb).2.1, (hf b hb).2.2.2.2.1, (hf b hb).2.2.2.2.2⟩) (fun b o _ _ hc e _ => k b o hc e) (fun b o _ _ hc e _ => ⟨o.slots, k b o hc e⟩)
    (fun _ _ _ _ n => n) (fun b o hc e => ⟨o, k b o hc e⟩) (fun _ _ e => e) (fun _ _ _ e => e) (fun b ps e => ⟨#[], by rw [e]; simp⟩) (fun m hm => ?_) (fun b u e => ?_) I.bare
  · obtain ⟨o, es, ep, ho, r⟩ := hm
    exact ⟨o, es, ep, k _ o (fun z => (hf _ z).2.1 rfl) ho, r⟩
  · refine (I.hok b u e).stay (fun c v hc q => k c v ?_ q) (fun _ q => q) fun _ _ q => q
    rcases hc with z | z
    · rw [z]; exact nit b u e
    · exact nit c _ z
/-- .. and one new object is laid -/
theorem Inv.turnedNew {t' : Nat} {ch : List Addr} {T : Addr} {ob : HO} (I : Inv X pins σ H s) (k : ∀ b o, b ∉ ch → s.heap.get? b = some o → h'.get? b = some o) (hf : ∀ b ∈ ch, FpOk X pins H b) (hT : s.heap.objs.size ≤ T)
    (new : ObjOk X.prog X.w (upd H T ob) h' T ob) : Inv X pins σ (upd H T ob) { s with heap := h', toks := t' } := by
  have hn : H T = none := I.hok.fresh hT
  have nit : ∀ b u, H b = some u → b ∉ ch := fun b u e z => by
    have q := (hf b z).1
    rw [q] at e; cases e
  refine I.step (g' := s.gens) (d' := s.drawn) (ch := ch) (fun b hb => ⟨(hf b hb).2.2.2.1, (hf b hb).2.1, (hf b hb).2.2.2.2.1, (hf b hb).2.2.2.2.2⟩) (fun b o _ _ hc e _ => k b o hc e) (fun b o _ _ hc e _ => ⟨o.slots, k b o hc e⟩)
    (fun b o _ e n => ?_) (fun b o hc e => ⟨o, k b o hc e⟩) (fun b xs e => ?_) (fun b o u e => ?_) (fun b ps e => ⟨#[], ?_⟩) (fun m hm => ?_) (fun b u e => ?_) I.bare
  · rw [upd_ne (Nat.ne_of_lt (Nat.lt_of_lt_of_le (Heap.lt_size e) hT))]; exact n
  · rw [upd_ne (ne_of_none e hn)]; exact e
  · rw [upd_ne (ne_of_none e hn)]; exact e
  · rw [upd_ne (ne_of_none e hn), e]; simp
  · obtain ⟨o, es, ep, ho, r⟩ := hm
    exact ⟨o, es, ep, k _ o (fun z => (hf _ z).2.1 rfl) ho, r⟩
  · by_cases hb : b = T
    · subst hb
      rw [upd_same] at e
      cases e
      exact new
    · rw [upd_ne hb] at e
      refine (I.hok b u e).stay (fun c v hc q => k c v ?_ q) (fun c q => by rw [upd_ne (ne_of_none q hn)]; exact q) fun c xs q => by rw [upd_ne (ne_of_none q hn)]; exact q
      rcases hc with z | z
      · rw [z]; exact nit b u e
      · exact nit c _ z

/-! ### locking a thing while a statement runs -/
end
section
variable {X : Cx}
/-! ### one iterator just laid -/
theorem pi_one {tg : Expr} {pins : List (Addr × Obj)} {σ : St} {H : Hp} {s : Shared} {R : It → Hp → Prop} {J : It} {tn : Nat → Heap → Prop} {tk : Nat} (I : Inv X pins σ H s) (o : Obj)
    (T : Turn X.prog X.w X.K tg J [s.heap.objs.size] s.heap.objs.size tn) (st : tn 0 (s.heap.push o)) (q : R J H) : PIE X pins σ tg R (.ref s.heap.objs.size) { s with heap := s.heap.push o, toks := tk } := by
  refine ⟨s.heap.objs.size, [s.heap.objs.size], tn, J, H, rfl, I.kept fun b ob e => Heap.get?_push_of_some _ e, T, st, fun b hb => ?_, q⟩
  have e : b = s.heap.objs.size := by simpa using hb
  subst e
  exact I.fpOk (Nat.le_refl _) (I.hok.fresh (Nat.le_refl _))
end

/-! ### range with a step -/
/-- range(i, j, c): small bounds, n items -/
def RgC (i j c : Int) (n : Nat) : Prop := c ≠ 0 ∧ c.natAbs < 1073741824 ∧ Builtin.Range.small i j c = true ∧ Builtin.Range.rangeSize i j c = n
theorem RgC.neg {i j : Int} (ha : -(2 ^ 62) ≤ i) (ha' : i < 2 ^ 62) (hb : -(2 ^ 62) ≤ j) (hb' : j < 2 ^ 62) : RgC i j (-1) (i - j).toNat :=
  ⟨by decide, by decide, PySem.W.small_down ha ha' hb hb', PySem.W.rangeSize_downNat i j⟩
section
variable {X : Cx} {tg : Expr}
end
/-! ### reversed(list) -/
section
variable {X : Cx} {tg : Expr}
end

/-! ### a str -/
def Its (x : Str) : It := ⟨fun i _ => i < x.cps.size, fun i H v H' => H' = H ∧ ∃ c, x.cps[i]? = some c ∧ v = .str ⟨#[c]⟩, fun i _ => x.cps.size ≤ i⟩
theorem turn_str {P : Program} {w : World} {K : PySem.W.Frag} {tg : Expr} (it : Addr) (x : Str) (t : Tok) (ty : String) (hty : ty = "str_ascii_iterator" ∨ ty = "str_iterator") :
    Turn P w K tg (Its x) [it] it (fun i h => h.IsStrIter it ty x t i) where
  mem := by simp
  obj := fun i h st b hb => by
    have e : b = it := by simpa using hb
    subst e
    obtain ⟨o, e, c, d⟩ := st
    exact ⟨o, e, fun v z => by rw [d] at z; cases z⟩
  keep := fun i h h' st k => let ⟨o, ho, r⟩ := st; ⟨o, k it (by simp) o ho, r⟩
  item := by
    intro X hP hw hK hc i pins s σ H E I hf st hg
    subst hP hw hK
    obtain ⟨f0, f1, f2, f3, f4, f5⟩ := hf it (by simp)
    have W : Walks X.prog X.w X.A it [it] [it] x.cps.size (SignAt x) (fun i h => h.IsStrIter it ty x t i) := by
      rcases hty with e | e
      · rw [e]; exact Walks.strAscii (I.ok.hd hc) it x t
      · rw [e]; exact Walks.strWide (I.ok.hd hc) it x t
    have hno : ["enumerate", "zip", "dict_itemiterator", "dict_reverseitemiterator", "odict_iterator", "itertools.zip_longest", "itertools.pairwise"].contains ty = false := by
      rcases hty with e | e
      · rw [e]; decide
      · rw [e]; decide
    refine W.item i s _ _ hg st fun v h' tk hv st' kk => ?_
    obtain ⟨c, u, hcx, rfl⟩ := hv
    have I1 : Inv X pins σ H { s with heap := h', toks := tk } := I.turned (fun b o hb e => kk b o (by simpa using hb) e) f0 f1 f3 f4 f5
    obtain ⟨oi, e, cc, dd⟩ := id st'
    exact ⟨_, rfl, go_of (s := { s with heap := h', toks := tk }) e cc dd hno ⟨.str ⟨#[c]⟩, H, I1, ⟨u, rfl⟩, ⟨rfl, c, hcx, rfl⟩, st', fun b hb => (hf b hb).1⟩⟩
  done := by
    intro X hP hw hK hc i pins s σ H E I hf st hg
    subst hP hw hK
    obtain ⟨f0, f1, f2, f3, f4, f5⟩ := hf it (by simp)
    have hx : x.cps[i]? = none := Array.getElem?_eq_none hg
    rcases hty with e | e
    · rw [e] at st
      exact wpAny_pyNext_ascii_end (I.ok.hd hc) st hx fun h' eb => ⟨rfl, I.turned (t' := s.toks) (fun b o hb e => eb b o hb e) f0 f1 f3 f4 f5⟩
    · rw [e] at st
      exact wpAny_pyNext_wide_end (I.ok.hd hc) st hx fun h' eb => ⟨rfl, I.turned (t' := s.toks) (fun b o hb e => eb b o hb e) f0 f1 f3 f4 f5⟩
  self := fun A i s Q E st h => by
    rcases hty with e | e
    · rw [e] at st; exact wpAny_pyIter_striter_ascii st h
    · rw [e] at st; exact wpAny_pyIter_striter_wide st h
def iStr (te : TE) : TI := fun σ H R => te σ H fun v H1 => ∃ x, v = .str x ∧ R (Its x) H1
theorem pi_str {X : Cx} {tg e : Expr} {te : TE} (he : PE X e te) : PI X tg e (iStr te) := by
  intro pins s σ H R I h
  refine thn (he pins s σ H _ I h) fun v s1 ⟨y, H1, I1, r1, x, ex, q⟩ => ?_
  subst ex
  obtain ⟨t, rfl⟩ := r1
  cases ha : x.cps.all (· < 128)
  · exact wpAny_pyIter_wide ha (pi_one (tk := s1.toks) I1 _ (turn_str _ x t "str_iterator" (.inr rfl)) ⟨_, Heap.get?_push_size _ rfl, rfl, rfl⟩ q)
  · exact wpAny_pyIter_ascii ha (pi_one (tk := s1.toks) I1 _ (turn_str _ x t "str_ascii_iterator" (.inl rfl)) ⟨_, Heap.get?_push_size _ rfl, rfl, rfl⟩ q)

/-! ### a dict's keys: any dict's entries -/
section
variable {prog : Program} {w : World} {A : Around} {E : Value → Shared → Prop} {s : Shared}
end

/-! ### a locked dict -/
section
variable {X : Cx} {pins : List (Addr × Obj)} {σ : St} {H : Hp} {s : Shared} {d : Addr} {o : Obj}
end

section
variable {P : Program} {w : World} {K : PySem.W.Frag} {tg : Expr} {d : Addr} {o : Obj} {es : Array DictEntry} {ep : Nat}
end

/-! ### for k in d, d.keys(), d.values(), d.items() -/
section
variable {X : Cx} {tg e : Expr} {td : TE} {apos cpos : Pos}
end

/-! ### enumerate(list) -/
/-- the list at a as it stands at each turn, each item in a new pair -/
def Ite (K : PySem.W.Frag) (a : Addr) : It :=
  ⟨fun i H => ∃ (xs : List V) (x : V), SqL K H a xs ∧ xs[i]? = some x, fun i H v H' => ∃ T x, v = .ref T ∧ H T = none ∧ H' = upd H T (.tup [.int (i : Nat), x]) ∧ ∀ xs, SqL K H a xs → xs[i]? = some x, fun i H => ∃ xs : List V, SqL K H a xs ∧ xs.length ≤ i⟩
theorem turn_enum {P : Program} {w : World} {K : PySem.W.Frag} {elts : List Expr} {kk : Nat} {tpos : Pos} (a e it : Addr) :
    Turn P w K (.Tuple elts kk tpos) (Ite K a) [e, it] e (fun i h => (∃ old, IsEnum h e it ((i : Nat) : Int) old) ∧ h.IsListIter it a i ∧ e ≠ it) where
  mem := by simp
  obj := fun i h st b hb => by
    obtain ⟨⟨old, he⟩, ⟨o, ho, hc, hd⟩, _⟩ := st
    have e' : b = e ∨ b = it := by simpa using hb
    rcases e' with z | z
    · rw [z]; exact ⟨_, he, fun v q => nomatch q⟩
    · rw [z]; exact ⟨o, ho, fun v q => by rw [hd] at q; cases q⟩
  keep := fun i h h' st k => let ⟨⟨old, he⟩, hi, hne⟩ := st; ⟨⟨old, k e (by simp) _ he⟩, hi.at fun o q => k it (by simp) o q, hne⟩
  item := by
    intro X hP hw hK hc i pins s σ H E I hf st hg
    subst hP hw hK
    obtain ⟨⟨old, he⟩, hit, hne⟩ := st
    obtain ⟨xs, x, hq, hx⟩ := hg
    obtain ⟨its, rv, p, hz⟩ := I.list hq
    obtain ⟨u, hu, ru⟩ := rv.get hx
    have hel : e < s.heap.objs.size := Heap.lt_size he
    have hil : it < s.heap.objs.size := by obtain ⟨_, q, _⟩ := hit; exact Heap.lt_size q
    refine wpAny_pyNext_enum_item he hit p.isList (x := u) (by simpa using hu) hne fun h' ho hit' hT hsz hk => ?_
    refine ⟨_, rfl, wpAny_letOwnedTupleGo_enum (s := { s with heap := h', toks := s.toks + 1 }) ho fun h'' he' sb => ?_⟩
    have hT2 : h''.get? s.heap.objs.size = some { cls := .type "tuple", data := .seq #[.int i s.toks, u] } := (sb.2 _ (Nat.ne_of_gt hel)).trans hT
    have new : ObjOk X.prog X.w (upd H s.heap.objs.size (.tup [.int (i : Nat), x])) h'' s.heap.objs.size (.tup [.int (i : Nat), x]) :=
      ⟨by show 2 ≤ sizeLine; decide, [.int i s.toks, u], .cons ⟨_, rfl⟩ (.cons ru .nil), ⟨_, hT2, rfl, _, rfl⟩⟩
    have I1 : Inv X pins σ (upd H s.heap.objs.size (.tup [.int (i : Nat), x])) { s with heap := h'', toks := s.toks + 1 } :=
      I.turnedNew (ch := [e, it]) (fun b ob hb q => (sb.2 b (fun z => hb (by simp [z]))).trans (hk b ob (fun z => hb (by simp [z])) (fun z => hb (by simp [z])) q)) hf (Nat.le_refl _) new
    refine ⟨.ref s.heap.objs.size, _, I1, rfl, ⟨_, x, rfl, I.hok.fresh (Nat.le_refl _), rfl, fun ys hy => by rw [I.list_inj hy hq]; exact hx⟩, ⟨⟨u, ?_⟩, hit'.at fun o q => (sb.2 it (Ne.symm hne)).trans q, hne⟩, fun b hb => ?_⟩
    · have e1 : ((i + 1 : Nat) : Int) = (i : Int) + 1 := by omega
      rw [e1]; exact he'
    · have hb' : b < s.heap.objs.size := by
        have e' : b = e ∨ b = it := by simpa using hb
        rcases e' with z | z
        · rw [z]; exact hel
        · rw [z]; exact hil
      rw [upd_ne (Nat.ne_of_lt hb')]
      exact (hf b hb).1
  done := by
    intro X hP hw hK hc i pins s σ H E I hf st hg
    subst hP hw hK
    obtain ⟨⟨old, he⟩, hit, hne⟩ := st
    obtain ⟨xs, hq, hx⟩ := hg
    obtain ⟨its, rv, p, hz⟩ := I.list hq
    obtain ⟨f0, f1, f2, f3, f4, f5⟩ := hf it (by simp)
    have hl := rv.length
    exact wpAny_pyNext_enum_end (I.ok.hd hc) he hit p.isList (by simp; omega) fun h' eb => ⟨rfl, I.turned (t' := s.toks) (fun b o hb q => eb b o hb q) f0 f1 f3 f4 f5⟩
  self := fun A i s Q E st h => let ⟨⟨_, he⟩, _⟩ := st; wpAny_pyIter_enum he h
def iEnum (K : PySem.W.Frag) (ta : TA) : TI := fun σ H R => ta σ H fun vs H1 => ∃ a xs, vs = [.ref a] ∧ SqL K H1 a xs ∧ R (Ite K a) H1
theorem pi_enum {X : Cx} {e : Expr} {ta : TA} {p pos tpos : Pos} {elts : List Expr} {kk : Nat} (hg : Gl X "enumerate") (hm : X.mg "enumerate" = none) (ha : PA X [e] ta) (hs : starEach [e] X.env = [(false, eval e X.env)] := by rfl) :
    PI X (.Tuple elts kk tpos) (.Call (.Name "enumerate" p) [e] [] pos) (iEnum X.K ta) := by
  intro pins s σ H R I h
  refine Call_ (ld_blt I hg hm boot_enumerate (PyProof.Rows.callWith_type1 (thn (ha pos pins s σ H _ I h) fun us s1 ⟨vs, H1, I1, r1, q1⟩ => ?_) hs rfl))
  obtain ⟨a, xs, ex, hq, q⟩ := q1
  subst ex
  cases r1 with
  | cons r rr =>
    cases rr
    cases r
    obtain ⟨its, rv, p', hz⟩ := I1.list hq
    refine call_enumerate_list p'.isList fun h' he hit hsz hk => wpAny_pyIter_enum he ?_
    have I2 : Inv X pins σ H1 { s1 with heap := h' } := I1.kept (t' := s1.toks) hk
    refine ⟨s1.heap.objs.size + 1, [s1.heap.objs.size + 1, s1.heap.objs.size], _, _, H1, rfl, I2, turn_enum a (s1.heap.objs.size + 1) s1.heap.objs.size, ⟨⟨.none, he⟩, hit, Nat.succ_ne_self _⟩, fun b hb => ?_, q⟩
    have e' : b = s1.heap.objs.size + 1 ∨ b = s1.heap.objs.size := by simpa using hb
    have hle : s1.heap.objs.size ≤ b := by
      rcases e' with z | z
      · rw [z]; exact Nat.le_add_right _ _
      · rw [z]; exact Nat.le_refl _
    exact I1.fpOk hle (I1.hok.fresh hle)
/-! ### zip(list, list) -/
theorem boot_zip5 : bootBuiltins "zip" = some (.type "zip") := by decide +kernel
end L2

section 
namespace Bits
open PySem PyProof.Rows

end Bits
end 

section 
namespace TL
open PySem PySem.Builtin PySem.Builtin.Str PySem.StrLaws

abbrev tl (x : Str) : List Nat := x.cps.toList
theorem len_tl (x : Str) : x.length = (tl x).length := by simp [tl, Str.length]
/-! ### the list functions -/
/-- S stands at the head of l -/
def pre (S l : List Nat) : Bool := l.take S.length == S
/-- l cut at each S from the left; k signs are still to be passed over -/
def spl (S : List Nat) : Nat → List Nat → List Nat → List (List Nat)
  | _, acc, [] => [acc]
  | 0, acc, c :: r => if pre S (c :: r) = true then acc :: spl S (S.length - 1) [] r else spl S 0 (acc ++ [c]) r
  | k + 1, acc, _ :: r => spl S k acc r
/-- what stands before the first S, and behind it -/
def par (S : List Nat) : List Nat → List Nat → Option (List Nat × List Nat)
  | _, [] => none
  | acc, c :: r => if pre S (c :: r) = true then some (acc, (c :: r).drop S.length) else par S (acc ++ [c]) r

/-! ### the model's split and partition are these -/
theorem at_iff {x y : Str} (hy : tl y ≠ []) (i : Nat) : At x y x.length i ↔ pre (tl y) ((tl x).drop i) = true := by
  have hx := len_tl x
  have hl := len_tl y
  constructor
  · intro h
    have h2 := h.2
    rw [subAt_eq, hl] at h2
    exact h2
  · intro h
    have e : ((tl x).drop i).take (tl y).length = tl y := eq_of_beq h
    have e1 := congrArg List.length e
    rw [List.length_take, List.length_drop] at e1
    have e2 : 0 < (tl y).length := List.length_pos_iff.mpr hy
    refine ⟨by omega, ?_⟩
    rw [subAt_eq, hl]
    exact h
/-! ### computing spl and par -/
/-! ### digits -/
/-! ### words: x.split() -/
end TL
end 

namespace L2
open PySem PySem.Spec PyProof.Rows

section
variable {X : Cx} {pins : List (Addr × Obj)} {σ : St} {H : Hp} {s : Shared} {Q : VK}
end

section
variable {X : Cx}

/-! ### of a text alone -/
/-! ### of a text and a text -/
end

section
variable {X : Cx} {o e : Expr} {to te : TE}
def tM1 (r : V → List V → Hp → VK → Prop) (to te : TE) : TE := fun σ H Q => to σ H fun x H1 => (∃ a, x = .str a) ∧ te σ H1 fun y H2 => r x [y] H2 Q
theorem pe_m1 {id : String} {name : Str} {apos pos : Pos} {r : V → List V → Hp → VK → Prop} (slot : Slot "str" name id) (ty : typeOf (.builtin id) = pure (.type "method_descriptor")) (rule : MtR X id r) (ho : PE X o to) (he : PE X e te)
    (hs : starEach [e] X.env = [(false, eval e X.env)] := by rfl) (hbase : attributeBase o name X.env (eval o X.env) = eval o X.env := by rfl) (hline : (apos.endLine == pos.line) = true := by rfl) :
    PE X (.Call (.Attribute o name apos) [e] [] pos) (tM1 r to te) := by
  intro pins s σ H Q I h
  refine PySem.Call_method1 hbase hs hline (thn (ho pins s σ H _ I h) fun v s1 ⟨x, H1, I1, r1, q1⟩ => ?_)
  obtain ⟨⟨a, rfl⟩, q1⟩ := q1
  obtain ⟨t, rfl⟩ := _root_.id r1
  refine ⟨"str", _, F.plainAttrs_str, slot, ty, typeIs_str _ _ _, (fun _ e => nomatch e), Calls.callWith_builtin rfl (Calls.evalArgs_plain (Calls.spliced_cons ?_))⟩
  exact thn (he pins s1 σ H1 _ I1 q1) fun u s2 ⟨y, H2, I2, r2, q2⟩ => Calls.spliced_nil (rule pins s2 σ H2 _ [y] _ [u] Q I2 r1 (.cons r2 .nil) q2)

end
end L2

namespace L2
open PySem PySem.Spec PyProof.Rows

section
variable {X : Cx}
theorem op_gt_str : OpR X (compareOp .Gt) (fun x y H Q => ∃ i j, x = .str i ∧ y = .str j ∧ Q (.bl (decide (j.cps.toList < i.cps.toList))) H) := by
  intro pins s σ H x y v u Q I rx ry h
  obtain ⟨i, j, rfl, rfl, q⟩ := h
  obtain ⟨t, rfl⟩ := rx
  obtain ⟨t', rfl⟩ := ry
  exact PySem.P.gt_str (fin_bl I q rfl)
/-- one sign in a text -/
theorem op_in_sign : OpR X (compareOp .In) (fun x y H Q => ∃ (c : Nat) (z : Str), x = .str ⟨#[c]⟩ ∧ y = .str z ∧ Q (.bl (decide (c ∈ z.cps.toList))) H) := by
  intro pins s σ H x y v u Q I rx ry h
  obtain ⟨c, z, rfl, rfl, q⟩ := h
  obtain ⟨t, rfl⟩ := rx
  obtain ⟨t', rfl⟩ := ry
  exact PyProof.Rows.in_str (fin_bl I q (PySem.StrLaws.found_one z c).symm)
end

/-! ### slices of a text -/
theorem IsPart.raw {v : Value} {o : Option Int} (p : IsPart v o) : ∃ l : Option (Int × Tok), v = partValue l ∧ l.map (·.1) = o := by
  cases p with
  | none => exact ⟨none, rfl, rfl⟩
  | int i t => exact ⟨some (i, t), rfl, rfl⟩

/-- a part, clipped, as the text's slice reckons it -/
def clipS (n d : Nat) : Option Int → Int
  | none => (d : Int)
  | some i => max 0 (min (if i < 0 then i + (n : Int) else i) (n : Int))
theorem clipS_eq (n d : Nat) (o : Option Int) : clipS n d o = ((HT.sIx n d o : Nat) : Int) := by
  cases o with
  | none => rfl
  | some v =>
    show max (0 : Int) (min (if v < 0 then v + (n : Int) else v) (n : Int)) = (((if v < 0 then (v + (n : Int)).toNat else min v.toNat n) : Nat) : Int)
    by_cases hv : v < 0
    · simp only [if_pos hv]
      omega
    · simp only [if_neg hv]
      omega
theorem sidx_clip (a b : Option Int) (n : Nat) : Builtin.Str.strSliceIndices a b 1 n = sliceRange (clipS n 0 a) (clipS n n b) 1 := by
  have h1 : ((1 : Int) > 0) = True := by simp
  cases a <;> cases b <;> first
    | rfl
    | (simp only [Builtin.Str.strSliceIndices, clipS, h1, if_true]; rfl)
    | simp [Builtin.Str.strSliceIndices, clipS]
theorem sidx (a b : Option Int) (n : Nat) : Builtin.Str.strSliceIndices a b 1 n = (List.range (HT.sIx n n b - HT.sIx n 0 a)).map (fun k => HT.sIx n 0 a + k) := by
  rw [sidx_clip, clipS_eq, clipS_eq]
  generalize HT.sIx n 0 a = p
  generalize HT.sIx n n b = q
  simp only [sliceRange, show ((1 : Int) > 0) = True from by simp, if_true]
  by_cases hlt : (p : Int) < q
  · have e3 : (((q : Int) - p + 1 - 1) / 1).toNat = q - p := by first | omega | (simp; done) | (simp; omega)
    simp only [hlt, if_true, e3]
    refine List.map_congr_left fun k _ => ?_
    omega
  · have : q - p = 0 := by omega
    simp [hlt, this]

/-- z[lo:hi] -/
def cutS (z : Str) (lo hi : Option Int) : Str :=
  ⟨((z.cps.toList.drop (HT.sIx z.length 0 lo)).take (HT.sIx z.length z.length hi - HT.sIx z.length 0 lo)).toArray⟩
theorem sliceText_cut (z : Str) (lo hi : Option Int) : PySem.StrLaws.sliceText z lo hi = cutS z lo hi := by
  have h1 : HT.sIx z.length 0 lo ≤ z.length := HT.sIx_le _ _ (Nat.zero_le _) _
  have h2 : HT.sIx z.length z.length hi ≤ z.length := HT.sIx_le _ _ (Nat.le_refl _) _
  have hp : HT.sIx z.length 0 lo ≤ max (HT.sIx z.length 0 lo) (HT.sIx z.length z.length hi) := Nat.le_max_left _ _
  have hq : max (HT.sIx z.length 0 lo) (HT.sIx z.length z.length hi) ≤ z.length := Nat.max_le.mpr ⟨h1, h2⟩
  have hd : max (HT.sIx z.length 0 lo) (HT.sIx z.length z.length hi) - HT.sIx z.length 0 lo = HT.sIx z.length z.length hi - HT.sIx z.length 0 lo := by omega
  have e : Builtin.Str.strSliceIndices lo hi 1 z.length =
      Builtin.Str.strSliceIndices (some ((HT.sIx z.length 0 lo : Nat) : Int)) (some ((max (HT.sIx z.length 0 lo) (HT.sIx z.length z.length hi) : Nat) : Int)) 1 z.length := by
    rw [PySem.StrLaws.strSliceIndices_plain hp hq, hd, sidx]
  have e2 : PySem.StrLaws.sliceText z lo hi =
      PySem.StrLaws.sliceText z (some ((HT.sIx z.length 0 lo : Nat) : Int)) (some ((max (HT.sIx z.length 0 lo) (HT.sIx z.length z.length hi) : Nat) : Int)) := by
    unfold PySem.StrLaws.sliceText
    rw [e]
  rw [e2, PySem.StrLaws.sliceText_nat z hp hq, hd]
  rfl
theorem cutS_length (z : Str) (lo hi : Option Int) : (cutS z lo hi).length ≤ z.length := by
  show (((z.cps.toList.drop (HT.sIx z.length 0 lo)).take (HT.sIx z.length z.length hi - HT.sIx z.length 0 lo)).toArray).size ≤ z.cps.size
  rw [List.size_toArray, List.length_take, List.length_drop, Array.length_toList]
  omega
def rSlS : V → Option Int → Option Int → Hp → VK → Prop := fun x lo hi H Q => ∃ z, x = .str z ∧ z.length ≤ sizeLine ∧ Q (.str (cutS z lo hi)) H
theorem sl_str {X : Cx} : SlR X rSlS := by
  intro pins s σ H x v vl vu lo hi sl Q I rx hs pl pu h
  obtain ⟨z, rfl, hz, q⟩ := h
  obtain ⟨t, rfl⟩ := rx
  obtain ⟨os, hos, hcs, hds⟩ := hs
  obtain ⟨l, rfl, rfl⟩ := IsPart.raw pl
  obtain ⟨u, rfl, rfl⟩ := IsPart.raw pu
  refine ⟨"str", _, F.slot_str_getitem.lookup, typeIs_str _ _ _, ?_⟩
  refine wpAny_getItem_str_slice (l := l) (u := u) (st := none) ⟨os, hos, hcs, hds⟩ rfl ?_
  have hl : (PySem.StrLaws.sliceText z (l.map (·.1)) (u.map (·.1))).length ≤ sizeLine := by
    rw [sliceText_cut]
    exact Nat.le_trans (cutS_length z _ _) hz
  rw [← sliceText_cut] at q
  unfold PySem.StrLaws.sliceText at q hl
  show Made.post (if ((1 : Int) == 1 && (Builtin.Str.strSliceIndices (l.map (·.1)) (u.map (·.1)) 1 z.length).length == z.length) = true then Made.val (.str z t)
    else Made.str ⟨((Builtin.Str.strSliceIndices (l.map (·.1)) (u.map (·.1)) 1 z.length).filterMap (z.cps[·]?)).toArray⟩) (EP X pins σ Q) s
  by_cases c : ((1 : Int) == 1 && (Builtin.Str.strSliceIndices (l.map (·.1)) (u.map (·.1)) 1 z.length).length == z.length) = true
  · rw [if_pos c] at q ⊢
    exact ⟨.str z, H, I, ⟨t, rfl⟩, q⟩
  · rw [if_neg c] at q hl ⊢
    exact ⟨hl, .str _, H, I.tok _, ⟨_, rfl⟩, q⟩
end L2

namespace Att
open PySem PySem.W PySem.Calls PyProof.Rows

/-! ### the script -/
theorem ints_of_wellAll {P : Params} {h : Heap} : ∀ (ns : List Int) (vs : List Value), WellAll P h vs (ns.map WData.int) → IntsAre vs ns := by
  intro ns
  induction ns with
  | nil =>
    intro vs w
    rw [List.map_nil] at w
    cases w
    exact .nil
  | cons n ns ih =>
    intro vs w
    rw [List.map_cons] at w
    cases w with
    | cons a b =>
      cases a
      exact .cons _ _ (ih _ b)

theorem script_of {l : OpenLaw} {n : Nat} (hn : l.most = some n) {P : Params} {h : Heap} {args : List WData} {vals : List Value}
    (hpre : l.row.toRowW.claim.pre args = true) (hwl : WellAll P h vals args) :
    ∃ a vs ns, vals = [Value.ref a] ∧ args = [WData.list (ns.map WData.int)] ∧ h.get? a = some { cls := .type "list", data := .seq vs.toArray } ∧ IntsAre vs ns ∧ ns.length ≤ n := by
  have hsh : WShape.hasAll [] args [.list .int] = true := (pre_splitW hpre).1
  have hc : l.pre.holds [] { args := args } = true := (pre_splitW hpre).2
  obtain ⟨d, r, rfl, h1, h2⟩ := hasAllW_cons hsh
  obtain rfl := hasAllW_nil h2
  obtain ⟨xs, rfl, h3⟩ := hasW_list h1
  obtain ⟨ns, rfl⟩ := items_int h3
  have hlen : ns.length ≤ n := by
    unfold OpenLaw.pre at hc
    have h4 : (WTm.not (.lt (.lit (.int (n : Int))) (.len (.arg 0)))).holds [] { args := [.list (ns.map .int)] } = true := by
      have h4 := (holds_andW hc).1
      rw [hn] at h4
      exact h4
    have h5 := condW_of h4 (w_not (w_lt w_lit (w_len_list (w_arg rfl))))
    rw [List.length_map] at h5
    refine Nat.le_of_not_lt fun q => ?_
    have q' : (n : Int) < ((ns.length : Nat) : Int) := by omega
    first
      | (rw [decide_eq_true q'] at h5; exact absurd h5 (by decide))
      | (simp at h5; omega)
  cases hwl with
  | cons w1 w2 =>
    cases w2
    cases w1 with
    | list ho hall => exact ⟨_, _, ns, rfl, rfl, ho, ints_of_wellAll ns _ hall, hlen⟩

theorem post_true (l : OpenLaw) (args : List WData) : l.row.toRowW.claim.post args (.bool true) args = true :=
  postW_of (r := l.row.toRowW) (X := (true == true))
    (show WShape.has [] (.bool true) .bool = true by first | rfl | decide | simp [WShape.has, WShape.arms, WShape.armsAll])
    (show (WTm.eq .res (.lit (.bool true))).value [] { args := args, res := some (.bool true), after := args } = some (.bool (true == true)) from w_eq_bool (w_res rfl) w_lit) rfl

/-! ### the attachment: holds_open's last premise (the goal 'hc' behind k_head) from a wpAny of the law's body -/
/-- the same from a codeAny of the CALL (for a layer whose function contracts speak of calls) -/
theorem attach_call {l : OpenLaw} {n : Nat} {q : Program} {loose : List Str} {XP : (Str → Option Value) → Heap → Prop} {YP : World → Heap → Prop} {d : DefRec}
    (hn : l.most = some n) (hdf : d.params.defaults = [])
    (call : ∀ (w : World) (s₀ s₁ : Shared) (mg mb : Str → Option Value) (fa : Addr) (o : Obj) (pm cd doc : Value) (a : Addr) (vs : List Value) (ns : List Int),
      Ground q loose [] XP w s₀ mg mb s₁.heap → YP w s₁.heap →
      s₁.heap.get? fa = some o → o.data = .func (docDef d.name d.params d.body d.scope pm cd doc) → s₁.heap.CodeRec cd d.name → mg d.name = some (.ref fa) →
      s₁.heap.get? a = some { cls := .type "list", data := .seq vs.toArray } → IntsAre vs ns → ns.length ≤ n → s₁.gens = #[] →
      codeAny (model l.prog w) callerA (.call (.ref fa) ⟨[.ref a], []⟩) (fun r s' => r = .ok (.ret (.bool true)) ∧ OldK s₁.heap s'.heap ∧ s'.os = s₁.os ∧ AllBare s'.gens) s₁) :
    WalkO q loose XP YP l.row.toRowW d [] (fun f vs => PySem.call f vs) := by
  intro w s₀ s₁ mg mb G Y fa o pm cd doc dV kV ho hd hcd hD hmg hg args vals as hpre hlay hrd hwl hlo
  obtain rfl : dV = .none := Dflts.none hD hdf
  obtain rfl : kV = .none := Dflts.noKw hD
  obtain ⟨a, vs, ns, rfl, rfl, hobj, hints, hlen⟩ := script_of hn hpre hwl
  refine enter_call (codeAny_mono (call w s₀ s₁ mg mb fa o pm cd doc a vs ns G Y ho (fd_plain hd) hcd hmg hobj hints hlen hg) fun r s' hq => ?_)
  obtain ⟨rfl, h2, h3, h4⟩ := hq
  exact ⟨.inl ⟨.bool true, .bool true, [], rfl, fun _ => rfl, .bool true, post_true l _, fun _ => ⟨List.Pairwise.nil, fun _ hm => (nomatch hm)⟩⟩, h2, h3, h4⟩

/-! ### rules over ANY heap (no ledger) from facts about the written part K: the library's own take a ledger (News) for what they write -/
section
variable {prog : Program} {w : World} {A : Around} {E : Value → Shared → Prop} {s : Shared} {K : Frag}

/-! the whole heap as the ledger: makes every rule that writes through a ledger a rule over any heap -/
def ledger (h : Heap) (L d : Addr) : List (Addr × Obj) := (List.range h.objs.size).filterMap fun a => if a = L ∨ a = d then none else (h.get? a).map fun o => (a, o)
end
end Att

namespace L2
open PySem PySem.Spec PyProof.Rows

theorem vals_ints : ∀ {vs : List Value} {ns : List Int}, IntsAre vs ns → Vals (ns.map V.int) vs
  | _, _, .nil => .nil
  | _, _, .cons n t h => .cons ⟨t, rfl⟩ (vals_ints h)

/-- nothing is tracked but the script, known to the object (or it is an object of the module) -/
def Only (H : Hp) : Prop := ∀ b, H b = none ∨ ∃ o xs, H b = some (.frz o (.lst xs))

/-- THE HEAD: the law's promise, at the heap behind the top. F, the promise of the law's def, may use that base is part of the heap (so K.In base, base.Ns mainGlobals mg stand in Mod) -/
theorem law_call {P : Program} {w : World} {K : PySem.W.Frag} {mg mb : Str → Option Value} {CX : CXT} {k : Nat} {fa a : Addr} {fd : FuncData} {x : Str} {sp : Sp} {s₁ : Shared} {vs : List Value} {ns : List Int}
    (KX : K.In s₁.heap) (hns : s₁.heap.Ns mainGlobals mg) (hb : s₁.heap.Ns builtinsNs mb) (hbb : ∀ x : Str, x ≠ "__name__" → mb x = bootBuiltins x) (hlim : s₁.heap.NoLimit) (hg : s₁.gens = #[])
    (ha : s₁.heap.get? a = some { cls := .type "list", data := .seq vs.toArray }) (hi : IntsAre vs ns) (hl : ns.length ≤ sizeLine) (hr : Room k callerA)
    (F : ∀ base : Heap, K.In base → base.Ns mainGlobals mg → FnOk P w K mg base CX k fa fd [x] sp) (hbind : ∀ (s : Shared) (u : Value), BindsTo s fd ⟨[u], []⟩ [(x, u)])
    (hsp : ∀ H : Hp, Only H → SqL K H a (ns.map V.int) → sp [.ref a] H (fun v _ => v = .bl true) fun _ _ _ => False)
    (hCX : ∀ H e s', CX [] H s₁ (fun _ _ _ => False) e s' → False) :
    codeAny (model P w) callerA (.call (.ref fa) ⟨[.ref a], []⟩) (fun r s' => r = .ok (.ret (.bool true)) ∧ OldK s₁.heap s'.heap ∧ s'.os = s₁.os ∧ AllBare s'.gens) s₁ := by
  have rv := vals_ints hi
  have lenV := hi.length
  -- from an abstract heap in which nothing but the script may be tracked
  have core : ∀ H : Hp, Only H → SqL K H a (ns.map V.int) → HOk P w H s₁.heap → (∀ b, H b ≠ none → b = a) → (H a ≠ none → K.lookup a = none) →
      codeAny (model P w) callerA (.call (.ref fa) ⟨[.ref a], []⟩) (fun r s' => r = .ok (.ret (.bool true)) ∧ OldK s₁.heap s'.heap ∧ s'.os = s₁.os ∧ AllBare s'.gens) s₁ := by
    intro H hO hS hok hA hK
    have base_of : ∀ {b : Addr} {o : Obj}, s₁.heap.get? b = some o → H b = none → (hidT s₁.heap H).get? b = some o := fun e n => hidT_get e n
    have noA : ∀ {b : Addr} {o : Obj} {es : Array DictEntry} {ep : Nat}, s₁.heap.get? b = some o → o.data = .dict es ep → H b = none := fun {b o es ep} e d => by
      cases q : H b with
      | none => rfl
      | some u =>
        have e' : b = a := hA b (by rw [q]; simp)
        subst e'
        rw [ha] at e; cases e
        have d' : Data.seq vs.toArray _ = Data.dict es ep := d
        cases d'
    have nsK : ∀ {b : Addr} {m : Str → Option Value}, s₁.heap.Ns b m → (hidT s₁.heap H).Ns b m := fun {b m} ⟨o, es, ep, e, d, r⟩ => ⟨o, es, ep, base_of e (noA e d), d, r⟩
    have hKb : K.In (hidT s₁.heap H) := fun b o e => base_of (KX b o e) (by
      cases q : H b with
      | none => rfl
      | some u =>
        have e' : b = a := hA b (by rw [q]; simp)
        subst e'
        rw [hK (by rw [q]; simp)] at e; cases e)
    have hM : Mod K mg (hidT s₁.heap H) := ⟨hKb, nsK hns, ⟨mb, nsK hb, hbb⟩, let ⟨mc, h1, h2⟩ := hlim; ⟨mc, nsK h1, h2⟩⟩
    have e0 : Env0 P w K mg (hidT s₁.heap H) callerA [] s₁ H := ⟨rfl, hM, fun b o e => of_hidT e, Nat.le_of_eq (hidT_size _ _), trivial, fun b hb => absurd (show b ∈ ([] : List Addr) from hb) (by simp), hok, .of_eq hg⟩
    refine codeAny_mono ((F _ hKb (nsK hns)).run callerA [] s₁ H ⟨[.ref a], []⟩ [.ref a] [.ref a] _ _ hr e0 (hbind s₁ (.ref a)) (.cons rfl .nil) (hsp H hO hS)) fun r s' h => ?_
    cases r with
    | error e => exact (hCX H e s' h).elim
    | ok fl =>
      cases fl with
      | next => exact False.elim h
      | brk => exact False.elim h
      | cont => exact False.elim h
      | ret u =>
        obtain ⟨v, H', os, bare, un, hok', r', q⟩ := h
        have q' : v = .bl true := q
        subst q'
        obtain rfl : u = Value.bool true := r'
        refine ⟨rfl, OldK.of_keep fun b o e => ?_, os, bare⟩
        cases q : H b with
        | none => exact un.keep b o e q (by intro z; exact absurd (show b ∈ ([] : List Addr) from z) (by simp)) (by simp)
        | some u =>
          rcases hO b with z | ⟨ob, xs, z⟩
          · rw [q] at z; cases z
          · have z2 := un.frzs b ob _ z
            obtain ⟨e1, _⟩ := hok b _ z
            obtain ⟨e2, _⟩ := hok' b _ z2
            rw [e] at e1; cases e1
            exact e2
  cases hk : K.lookup a with
  | some o =>
    -- the script is one of the module's own objects
    have e := KX a o hk
    rw [ha] at e
    cases e
    refine core (fun _ => none) (fun _ => .inl rfl) (.inr ⟨_, vs.toArray, _, hk, rfl, rfl, rfl, by rw [List.size_toArray, lenV]; exact hl, by simpa using rv⟩) (fun b u z => by have z' : (none : Option HO) = some u := z; cases z') (fun b z => absurd rfl z) fun z => absurd rfl z
  | none =>
    refine core (fun b => if b = a then some (.frz { cls := .type "list", data := .seq vs.toArray } (.lst (ns.map V.int))) else none) (fun b => ?_) (.inl (.inr ⟨{ cls := .type "list", data := .seq vs.toArray }, if_pos rfl⟩)) (fun b u z => ?_) (fun b z => ?_) fun _ => hk
    · by_cases hb : b = a
      · exact .inr ⟨_, _, if_pos hb⟩
      · exact .inl (if_neg hb)
    · by_cases hb : b = a
      · have z' := (if_pos hb).symm.trans z
        cases z'
        subst hb
        exact ⟨ha, by rw [List.length_map]; exact hl, vs, _, rv, ha⟩
      · have z' := (if_neg hb).symm.trans z
        cases z'
    · by_cases hb : b = a
      · exact hb
      · exact absurd (if_neg hb) z
end L2

namespace L2
open PySem PySem.Spec PyProof.Rows

abbrev KOf {K : PySem.W.Frag} {h : Heap} (_ : K.In h) : PySem.W.Frag := K

/-- the goal that k_head leaves (case hc), from the law's promise. F gives the function object fd (K's own) once, then the promise over every base -/
theorem walk_of {l : PySem.W.OpenLaw} {n k : Nat} {q : Program} {loose : List Str} {XP : (Str → Option Value) → Heap → Prop} {YP : World → Heap → Prop} {d : DefRec} {K : Params → PySem.W.Frag} {CX : World → CXT} {sp : World → Sp} {x : Str}
    (hn : l.most = some n) (hn2 : n ≤ sizeLine) (hdf : d.params.defaults = []) (hr : Room k callerA)
    (hY : ∀ (w : World) (h : Heap), YP w h → (K w.params).In h)
    (F : ∀ (w : World) (mg : Str → Option Value) (fa : Addr) (h : Heap), (K w.params).In h → h.Ns mainGlobals mg → mg d.name = some (.ref fa) →
      ∃ fd : FuncData, (∀ (s : Shared) (u : Value), BindsTo s fd ⟨[u], []⟩ [(x, u)]) ∧
        ∀ base : Heap, (K w.params).In base → base.Ns mainGlobals mg → FnOk l.prog w (K w.params) mg base (CX w) k fa fd [x] (sp w))
    (hsp : ∀ (w : World) (H : Hp) (a : Addr) (ns : List Int), ns.length ≤ n → Only H → SqL (K w.params) H a (ns.map V.int) → sp w [.ref a] H (fun v _ => v = .bl true) fun _ _ _ => False)
    (hCX : ∀ (w : World) (H : Hp) (s : Shared) (e : Value) (s' : Shared), CX w [] H s (fun _ _ _ => False) e s' → False) :
    PySem.W.WalkO q loose XP YP l.row.toRowW d [] (fun f vs => PySem.call f vs) := by
  refine Att.attach_call hn hdf fun w s₀ s₁ mg mb fa o pm cd doc a vs ns G Y ho hd hcd hmg hobj hints hlen hg => ?_
  have KX := hY w _ Y
  obtain ⟨fd, hb, hF⟩ := F w mg fa _ KX G.T.g hmg
  exact law_call KX G.T.g G.T.b G.T.builtins G.T.nolimit hg hobj hints (Nat.le_trans hlen hn2) hr hF hb (fun H hO hS => hsp w H a ns hlen hO hS) fun H e s' => hCX w H s₁ e s'
end L2

/- THE LAST THEOREM (shape; LID, My.* are yours):
   My.Adr: a structure of the addresses that your layer names (classes, functions); My.Txt K t: a structure (Prop) of the equations over K;
   My.txt_mk : {K} {implicit addresses ..} (e1 : nsIn K mainGlobals "law" = some (some (.ref f))) (e2 : K.lookup f = some ⟨oc, od, .func (fnOf "law" "law" params body scope dV kV doc pm an cdv ct), sl⟩) (e3 : codeIn K cdv "law" = true) .. : ∃ t, My.Txt K t

set_option maxRecDepth 100000 in
set_option maxHeartbeats 0 in
theorem PySem.Challenge.cw_LID_holds : PySem.Challenge.rw_LID.Holds := by
  w_on; o_law; k_head; (case hw => w_witness2)
  k_fill
  refine L2.walk_of (l := PySem.Challenge.rw_LID) (n := 63) (k := 40) (x := "script") (CX := fun w => ..) (sp := fun _ => My.sp_law) rfl (by decide) rfl ⟨rfl, by decide, by decide⟩ (fun w h Y => PySem.W.kIn_of Y) ?F ?S ?C
  case F =>
    intro w mg fa h KX G hmg
    have T : ∃ t, My.Txt (L2.KOf KX) t := by
      dsimp only [L2.KOf]                          -- K must stand as «<heap const> w.params» for k_is
      refine' My.txt_mk ?e1 ?e2 ?e3 ..
      (case e1 => PySem.W.k_is)                    -- in the order: a name -> its address -> its object -> its parts
      (case e2 => PySem.W.k_is)
      ..
    obtain ⟨t, T⟩ := T
    have e0 := hmg.symm.trans (PySem.W.mg_of KX G T.law)
    cases e0                                       -- fa is the law's own address
    exact ⟨_, fun s u => .of_eq rfl, fun base kb nb => My.law_fn T kb nb⟩     -- if «.of_eq rfl» comes too early: refine' ⟨_, ?b, fun base kb nb => My.law_fn T kb nb⟩; exact fun s u => .of_eq rfl
  case S => exact fun w H a ns hl hO hS => ..
  case C => exact ..
(the tactic k_is has no namespace: write k_is) -/

/-! SHORT WORDS over the layer: a def of the text, its body, what a loop and a test want. -/
namespace L2
open PySem PySem.Spec PyProof.Rows

/-! ### the text by places -/
def defArgs (s : Stmt) : Arguments := match s with
  | .FunctionDef _ a _ _ _ _ _ _ _ _ => a
  | _ => { posonlyargs := [], args := [], vararg := none, kwonlyargs := [], kw_defaults := [], kwarg := none, defaults := [] }
def defBody (s : Stmt) : List Stmt := match s with
  | .FunctionDef _ _ b _ _ _ _ _ _ _ => b
  | _ => []
def defScope (s : Stmt) : Scope := match s with
  | .FunctionDef _ _ _ _ _ _ sc _ _ _ => sc
  | _ => { kind := .function, names := [], isGenerator := false, isCoroutine := false }

/-! ### no exception leaves a def -/
abbrev CX0 : CXT := fun _ _ _ _ _ _ => False
abbrev E0 : XK := fun _ _ _ => False
theorem pass0 {X : Cx} : Passes CX0 X E0 := fun _ _ _ _ _ _ _ h => h.elim

/-! ### a def (or method) of the text as it stands behind the top -/
structure Fun (K : PySem.W.Frag) (x qual : Str) (st : Stmt) (f : Addr) (fd : FuncData) : Prop where
  ex : ∃ (oc : Value) (od : Option Addr) (kV doc pm : Value) (an : Option Addr) (cdv ct : Value) (osl : Array (Option Value)),
    fd = PySem.W.fnOf x qual (defArgs st) (defBody st) (defScope st) .none kV doc pm an cdv ct ∧ K.lookup f = some ⟨oc, od, .func fd, osl⟩ ∧ PySem.W.codeIn K cdv qual = true
  kp : PySem.W.keepIn K (.ref f) = true
section
variable {P : Program} {w : World} {K : PySem.W.Frag} {mg : Str → Option Value} {base : Heap}
/-- THE RULE for a def: its body as a term of rules, and the reading of that term -/
theorem Fun.ok {x qual : Str} {st : Stmt} {f : Addr} {fd : FuncData} {N ps : List Str} {k : Nat} {sp : Sp} (F : Fun K x qual st f fd) (S : FnScope N ps (defScope st)) (len : ∀ vs H Q E, sp vs H Q E → vs.length = ps.length)
    (hbody : ∀ (cdv : Value) (A : Around) (outer : List Env) (s : Shared) (H : Hp) (vs : List V) (Q : VK) (E : XK), Room k (A.deeper (envOfC qual (defScope st) s.heap.objs.size f cdv)) → sp vs H Q E →
      ∃ t, PSs (cxOf CX0 P w K mg base N qual (defScope st) f cdv A outer s H E).nox (defBody st) t ∧ t { nx := fun _ H' => Q .non H', rt := Q } (start N vs) H) : FnOk P w K mg base CX0 (k + 1) f fd ps sp := by
  obtain ⟨oc, od, kV, doc, pm, an, cdv, ct, osl, rfl, lk, hcd⟩ := F.ex
  refine fn_of lk hcd S len fun A outer s H vs Q E hr hsp => ?_
  obtain ⟨t, h, q⟩ := hbody cdv A outer s H vs Q E hr hsp
  exact ⟨t, h.nox, q⟩
/-- how its arguments bind (no defaults): h is «fun _ _ _ _ _ _ us hl => match us, hl with | [_, _], _ => rfl», one _ a parameter -/
theorem Fun.binds {x qual : Str} {st : Stmt} {f : Addr} {fd : FuncData} {ps : List Str} (F : Fun K x qual st f fd)
    (h : ∀ (kV doc pm : Value) (an : Option Addr) (cdv ct : Value) (us : List Value), us.length = ps.length → bindArgs (PySem.W.fnOf x qual (defArgs st) (defBody st) (defScope st) .none kV doc pm an cdv ct) ⟨us, []⟩ = pure (ps.zip us)) : Binds K fd ps [] := by
  obtain ⟨oc, od, kV, doc, pm, an, cdv, ct, osl, rfl, lk, hcd⟩ := F.ex
  exact .all (h kV doc pm an cdv ct)
theorem fun_mk {x qual : Str} {st : Stmt} {f : Addr} {oc : Value} {od an : Option Addr} {osl : Array (Option Value)} {kV doc pm cdv ct : Value} (l : K.lookup f = some ⟨oc, od, .func (PySem.W.fnOf x qual (defArgs st) (defBody st) (defScope st) .none kV doc pm an cdv ct), osl⟩)
    (c : PySem.W.codeIn K cdv qual = true) (k : PySem.W.keepIn K (.ref f) = true) : Fun K x qual st f (PySem.W.fnOf x qual (defArgs st) (defBody st) (defScope st) .none kV doc pm an cdv ct) := ⟨⟨oc, od, kV, doc, pm, an, cdv, ct, osl, rfl, l, c⟩, k⟩
end
/-! ### expressions in short: the name that stands in the i-th slot -/
section
variable {X : Cx}
theorem pv (i : Nat) {x : Str} {pos : Pos} (hN : X.N[i]? = some x := by rfl) (hv : Vis X.env.scope x := by first | exact Or.inl rfl | exact Or.inr (Or.inl rfl) | exact Or.inr (Or.inr rfl)) (hd : (x == ("__debug__" : Str)) = false := by decide)
    (hcd : (x == ("__classdict__" : Str)) = false := by decide) : PE X (.Name x pos) (tVar i) := pe_var hN hv hd hcd
end

/-! ### tests -/
theorem iteF {A B : Prop} (h : B) : if false = true then A else B := by
  rw [if_neg Bool.false_ne_true]
  exact h
theorem iteT {A B : Prop} (h : A) : if true = true then A else B := by
  rw [if_pos rfl]
  exact h
theorem ite2 {c A B : Prop} [Decidable c] (h1 : c → A) (h2 : ¬ c → B) : if c then A else B := by
  by_cases h : c
  · rw [if_pos h]
    exact h1 h
  · rw [if_neg h]
    exact h2 h
theorem iteNS {c A B : Prop} [Decidable c] (hc : c) (h : B) : if (!decide c) = true then A else B := by
  rw [decide_eq_true hc]
  exact iteF h

/-! ### heaps -/
/-- all that was tracked is as it was -/
def Same (H H' : Hp) : Prop := ∀ b o, H b = some o → H' b = some o
theorem Same.refl (H : Hp) : Same H H := fun _ _ h => h
theorem Same.trans {H H1 H2 : Hp} (a : Same H H1) (b : Same H1 H2) : Same H H2 := fun c o h => b c o (a c o h)
theorem Same.free {H H' : Hp} (e : Same H H') {l : Addr} (h : H' l = Option.none) : H l = Option.none := by
  cases q : H l with
  | none => rfl
  | some o =>
    rw [e l o q] at h
    cases h
theorem Same.seq {K : PySem.W.Frag} {H H' : Hp} {a : Addr} {xs : List V} (e : Same H H') (h : SqL K H a xs) : SqL K H' a xs := by
  rcases h with (h | ⟨o, h⟩) | h
  · exact .inl (.inl (e _ _ h))
  · exact .inl (.inr ⟨o, e _ _ h⟩)
  · exact .inr h

/-! ### a dict's pairs: keys that differ -/
section
variable {κ : Type} [DecidableEq κ]
theorem nd_snoc : ∀ {l : List κ} {k : κ}, l.Nodup → ¬ k ∈ l → (l ++ [k]).Nodup
  | [], k, _, _ => by simp
  | a :: r, k, h, hk => by
    obtain ⟨h1, h2⟩ := List.nodup_cons.mp h
    show (a :: (r ++ [k])).Nodup
    refine List.nodup_cons.mpr ⟨fun m => ?_, nd_snoc h2 fun m => hk (List.mem_cons.mpr (Or.inr m))⟩
    rcases List.mem_append.mp m with q | q
    · exact h1 q
    · exact hk (List.mem_cons.mpr (Or.inl (List.mem_singleton.mp q).symm))
end
/-! ### lists -/
theorem at_of {xs : List V} {z : Int} {j : Nat} {v : V} (e : z = (j : Int)) (h : xs[j]? = some v) : atI xs z = some v := by
  rw [e]
  exact atI_nat h
/-- a new instance and its __init__ leave all that was tracked as it was -/
theorem Same.made {H H1 : Hp} {x dx C : Addr} (nx : H x = Option.none) (nd : H dx = Option.none) (k : ∀ b o, (upd (upd H dx (.own x)) x (.ins C dx [])) b = some o → b ≠ x → H1 b = some o) : Same H H1 := fun b o e =>
  k b o (by rw [upd_ne (ne_of_none e nx), upd_ne (ne_of_none e nd)]; exact e) (ne_of_none e nx)
end L2

/-! Rules beside the hand layer: str.index of one sign, a text turned about, isinstance. -/
namespace L2
open PySem PySem.Spec PyProof.Rows
section
variable {X : Cx}

/-- the first place of a sign in a text -/
theorem at_one {x : Str} {c i : Nat} : PySem.StrLaws.At x ⟨#[c]⟩ x.length i ↔ x.cps[i]? = some c := by
  rw [TL.at_iff (by show [c] ≠ []; simp)]
  show TL.pre [c] (x.cps.toList.drop i) = true ↔ _
  unfold TL.pre
  rw [← Array.getElem?_toList]
  cases e : x.cps.toList.drop i with
  | nil =>
    have : x.cps.toList[i]? = none := by
      have h := List.drop_eq_nil_iff.mp e
      exact List.getElem?_eq_none h
    rw [this]; simp
  | cons a r =>
    have : x.cps.toList[i]? = some a := by
      have h : (x.cps.toList.drop i)[0]? = some a := by rw [e]; rfl
      rw [List.getElem?_drop] at h; simpa using h
    rw [this]; simp
theorem occ_one {x : Str} {c : Nat} (h : c ∈ x.cps.toList) : ∃ rest, Builtin.Str.occurrences x ⟨#[c]⟩ 0 x.length 1 = x.cps.toList.idxOf c :: rest := by
  have hi : x.cps.toList[x.cps.toList.idxOf c]? = some c := by
    rw [List.getElem?_eq_getElem (List.idxOf_lt_length_of_mem h)]
    simp
  rcases PySem.StrLaws.occ_head x ⟨#[c]⟩ 1 (Nat.le_refl _) with ⟨_, h0⟩ | ⟨i, r, e, ha, hn⟩
  · exact absurd (at_one.mpr (by rw [← Array.getElem?_toList]; exact hi)) (h0 _)
  · refine ⟨r, ?_⟩
    rw [e]
    have hx : x.cps.toList[i]? = some c := by rw [Array.getElem?_toList]; exact at_one.mp ha
    have h1 : ¬ x.cps.toList.idxOf c < i := fun q => hn _ q (at_one.mpr (by rw [← Array.getElem?_toList]; exact hi))
    have h2 : x.cps.toList.idxOf c ≤ i := by
      have hlt := (List.getElem?_eq_some_iff.mp hx)
      obtain ⟨hl, he⟩ := hlt
      apply Nat.le_of_not_lt
      intro q
      have := List.not_of_lt_findIdx q
      simp [he] at this
    have : i = x.cps.toList.idxOf c := by omega
    rw [this]
/-- x.index(c), c one sign that is there -/
theorem mt_sindex : MtR X "str.index" (fun x xs H Q => ∃ a c, x = .str a ∧ xs = [.str ⟨#[c]⟩] ∧ c ∈ a.cps.toList ∧ Q (.int (a.cps.toList.idxOf c : Nat)) H) := by
  intro pins s σ H x xs v us Q I rx rs h
  obtain ⟨a, c, rfl, rfl, hc, h⟩ := h
  obtain ⟨t, rfl⟩ := rx
  cases rs with
  | cons r1 rs =>
    cases rs
    obtain ⟨u, rfl⟩ := r1
    obtain ⟨rest, e⟩ := occ_one hc
    exact PySem.SC.index e ⟨.int (a.cps.toList.idxOf c : Nat), H, I.tok _, ⟨_, rfl⟩, h⟩
theorem pe_sindex {o e : Expr} {to te : TE} {apos pos : Pos} (ho : PE X o to) (he : PE X e te) (hs : starEach [e] X.env = [(false, eval e X.env)] := by rfl) (hbase : attributeBase o "index" X.env (eval o X.env) = eval o X.env := by rfl) (hline : (apos.endLine == pos.line) = true := by rfl) :
    PE X (.Call (.Attribute o "index" apos) [e] [] pos) (tM1 (fun x xs H Q => ∃ a c, x = .str a ∧ xs = [.str ⟨#[c]⟩] ∧ c ∈ a.cps.toList ∧ Q (.int (a.cps.toList.idxOf c : Nat)) H) to te) :=
  pe_m1 F.slot_str_index F.type_str_index mt_sindex ho he hs hbase hline

theorem fm_congr {α β : Type} {f g : α → Option β} : ∀ {l : List α}, (∀ a ∈ l, f a = g a) → l.filterMap f = l.filterMap g
  | [], _ => rfl
  | a :: r, h => by
    rw [List.filterMap_cons, List.filterMap_cons, h a (List.mem_cons_self ..), fm_congr fun b hb => h b (List.mem_cons_of_mem _ hb)]
theorem fm_range {α : Type} : ∀ l : List α, (List.range l.length).filterMap (fun k => l[k]?) = l
  | [] => rfl
  | a :: r => by
    rw [List.length_cons, List.range_succ_eq_map, List.filterMap_cons, List.filterMap_map]
    show a :: _ = _
    congr 1
    exact fm_range r
/-- z[::-1] -/
theorem sidx_rev (n : Nat) : Builtin.Str.strSliceIndices none none (-1) n = (List.range n).map (fun k => n - 1 - k) := by
  have h1 : ¬ ((-1 : Int) > 0) := by decide
  simp only [Builtin.Str.strSliceIndices, sliceRange, if_neg h1]
  by_cases h : (n : Int) - 1 > -1
  · rw [if_pos h]
    have e : (((n : Int) - 1 - -1 - -1 - 1) / (- -1)).toNat = n := by
      have e1 : ((n : Int) - 1 - -1 - -1 - 1) = n := by omega
      rw [e1, show (- -1 : Int) = 1 from rfl, Int.ediv_one]
      rfl
    rw [e]
    refine List.map_congr_left fun k hk => ?_
    have := List.mem_range.mp hk
    omega
  · rw [if_neg h]
    have : n = 0 := by omega
    subst this
    rfl
def revS (z : Str) : Str := ⟨z.cps.toList.reverse.toArray⟩
theorem picked_rev (z : Str) : ((Builtin.Str.strSliceIndices none none (-1) z.length).filterMap (z.cps[·]?)).toArray = z.cps.toList.reverse.toArray := by
  congr 1
  rw [sidx_rev]
  have hz : z.length = z.cps.toList.length := by show z.cps.size = _; simp
  rw [hz]
  generalize hl : z.cps.toList = l
  have hg : ∀ i : Nat, z.cps[i]? = l[i]? := fun i => by rw [← hl, Array.getElem?_toList]
  have : ((List.range l.length).map (fun k => l.length - 1 - k)).filterMap (z.cps[·]?) = ((List.range l.length).map (fun k => l.length - 1 - k)).filterMap (l[·]?) := by
    simp only [hg]
  rw [this]
  clear this hg hl hz
  rw [List.filterMap_map]
  have key : ∀ k ∈ List.range l.length, ((fun x => l[x]?) ∘ fun k => l.length - 1 - k) k = l.reverse[k]? := fun k hk => by
    have := List.mem_range.mp hk
    show l[l.length - 1 - k]? = _
    rw [List.getElem?_reverse this]
  rw [fm_congr key]
  have e := fm_range l.reverse
  rw [List.length_reverse] at e
  exact e
def tRev (te : TE) : TE := fun σ H Q => te σ H fun x H1 => ∃ z, x = .str z ∧ z.length ≤ sizeLine ∧ Q (.str (revS z)) H1
theorem pe_rev {e : Expr} {te : TE} {p0 p1 p2 pos : Pos} {k : Nat} (he : PE X e te) : PE X (.Subscript e (.Slice none none (some (.UnaryOp .USub (.Constant (.int 1) k p0) p1)) p2) pos) (tRev te) := by
  intro pins s σ H Q I h
  refine Subscript_ (thn (he pins s σ H _ I h) fun v s1 ⟨x, H1, I1, r1, z, ex, hz, q1⟩ => ?_)
  subst ex
  obtain ⟨t, rfl⟩ := r1
  refine wpAny_Slice ?_
  rw [evalPart_none, evalPart_some]
  refine wpAny_pure (wpAny_pure ?_)
  refine thn (pe_un (r := rU fun i => .int (-i)) un_neg pe_int pins s1 σ H1 (fun x H' => x = .int (-1) ∧ H' = H1) I1 ⟨1, rfl, rfl, rfl⟩) fun u s2 ⟨y, H2, I2, r2, ey, eH⟩ => ?_
  subst ey
  subst eH
  obtain ⟨t2, rfl⟩ := r2
  have I4 : Inv X pins σ H2 { s2 with heap := s2.heap.push { cls := .type "slice", data := .fields #[.none, .none, .int (-1) t2] } } := I2.kept (t' := s2.toks) fun b ob q => Heap.get?_push_of_some _ q
  have hg : wpAny (model X.prog X.w) X.A (getItem (.str z t) (.ref s2.heap.objs.size)) (EP X pins σ Q) X.xe { s2 with heap := s2.heap.push { cls := .type "slice", data := .fields #[.none, .none, .int (-1) t2] } } := by
    refine wpAny_getItem_str_slice (l := none) (u := none) (st := some (-1, t2)) ⟨_, Heap.get?_push_size _ rfl, rfl, rfl⟩ rfl ?_
    show Made.post (if (((-1 : Int)) == 1 && (Builtin.Str.strSliceIndices none none (-1) z.length).length == z.length) = true then Made.val (.str z t) else Made.str ⟨((Builtin.Str.strSliceIndices none none (-1) z.length).filterMap (z.cps[·]?)).toArray⟩) (EP X pins σ Q) _
    rw [if_neg (by simp), picked_rev]
    refine ⟨?_,   .str (revS z), H2, I4.tok _, ⟨_, rfl⟩, q1⟩
    show (z.cps.toList.reverse.toArray).size ≤ sizeLine
    have : z.cps.size ≤ sizeLine := hz
    simpa using this
  exact tail_any (ops := [.ref s2.heap.objs.size, .str z t]) (typeIs_str _ z t) F.slot_str_getitem.lookup hg (by with_unfolding_all rfl)

/-- isinstance(x, T), T a built-in type -/
theorem call_isinst : CallR X (.builtin "isinstance") (fun vs H Q => ∃ x T t b, vs = [x, .ty T] ∧ TyOf X.K H x t ∧ PySem.W.kitOne X.K t (.type T) = some b ∧ Q (.bl b) H) := by
  intro pins s σ H xs us Q I r h
  obtain ⟨x, T, t, b, rfl, ty, e, q⟩ := h
  obtain ⟨u, u2, rfl, r1, r2⟩ := vals2 r
  cases r2
  exact isinst_ok I r1 ty e fun tk => ⟨.bl b, H, I.tok tk, rfl, q⟩
end
end L2

/-! zip of two texts. -/
namespace PySem
open Sem (wp)
section
variable {prog : Program} {w : World} {A : Around} {E : Value → Shared → Prop} {s : Shared}
theorem zip_next_itemS {z TI TO i1 i2 : Addr} {n1 n2 k : Nat} {P1 P2 : Nat → Value → Prop} {S1 S2 : Nat → Heap → Prop} {a b : Value} {Q : Value → Shared → Prop} (D : ZipApart z TI TO i1 i2 TI TI)
    (D1 : Draws prog w A i1 [i1] n1 P1 S1) (D2 : Draws prog w A i2 [i2] n2 P2 S2)
    (hz : IsZip s.heap z TI TO .none) (hTI : IsPair s.heap TI (.ref i1) (.ref i2)) (hTO : IsPair s.heap TO a b)
    (h1 : S1 k s.heap) (h2 : S2 k s.heap) (hx : k < n1) (hy : k < n2)
    (hQ : ∀ x y h' tk, P1 k x → P2 k y → IsZip h' z TI TO (rawInt s.heap.objs.size) → IsPair h' TO x y → S1 (k + 1) h' → S2 (k + 1) h' → IsPair h' s.heap.objs.size x y → h'.objs.size = s.heap.objs.size + 1 →
      (∀ c o, c ≠ z → c ≠ TO → c ≠ i1 → c ≠ i2 → s.heap.get? c = some o → h'.get? c = some o) → Q (.ref s.heap.objs.size) { s with heap := h', toks := tk }) :
    wpAny (model prog w) A (Builtin.«zip.__next__» ⟨[.ref z], []⟩) (fun fin s' => ∃ v, fin = .done (.ret v) ∧ Q v s') E s := by
  have f1 : ∀ {i : Nat} {h h' : Heap}, S1 i h → (∀ o, h.get? i1 = some o → h'.get? i1 = some o) → S1 i h' := fun st q => D1.frame _ _ _ st fun b hb o e => by
    rw [List.mem_singleton.mp hb] at e ⊢; exact q o e
  have f2 : ∀ {i : Nat} {h h' : Heap}, S2 i h → (∀ o, h.get? i2 = some o → h'.get? i2 = some o) → S2 i h' := fun st q => D2.frame _ _ _ st fun b hb o e => by
    rw [List.mem_singleton.mp hb] at e ⊢; exact q o e
  show wpAny _ _ (field (.ref z) 2 >>= _) _ _ _
  refine wpAny_bind (wpAny_field hz rfl (x := .bool false) rfl ?_)
  show wpAny _ _ (field (.ref z) 3 >>= _) _ _ _
  refine wpAny_bind (wpAny_field hz rfl (x := .ref TI) rfl ?_)
  refine wpAny_bind (wpAny_seqItems hTI rfl ?_)
  show wpAny _ _ (Builtin.SmallTypes.ownedTupleIsFree (.ref z) >>= _) _ _ _
  refine wpAny_bind ?_
  unfold Builtin.SmallTypes.ownedTupleIsFree
  refine wpAny_bind (wpAny_field hz rfl (x := .none) rfl (wpAny_pure ?_))
  simp only [if_true]
  refine wpAny_bind (wpAny_rule ?_)
  refine wpAny_bind (wpAny_field hz rfl (x := .ref TO) rfl ?_)
  refine wpAny_bind (wpAny_setField_rec hz (by simp) fun h₁ hz₁ hs₁ => ?_)
  replace hz₁ : IsZip h₁ z TI TO .ellipsis := hz₁
  refine wpAny_bind ?_
  simp only [List.zipIdx_cons, List.zipIdx_nil, List.forIn_cons, List.forIn_nil]
  refine wpAny_bind (wpAny_bind (wpAny_onRaise ?_))
  show wpAny _ _ (Builtin.SmallTypes.nextOf (.ref i1) >>= _) _ _ _
  refine wpAny_bind (D1.item k _ _ _ hx (f1 h1 fun o e => hs₁.extBut _ _ D.i1z e) fun x h₂ tk₂ px h1₂ hs₂ => wpAny_pure ?_)
  have hTO₂ : IsPair h₂ TO a b := hs₂.extBut _ _ D.TOi1 (hs₁.extBut _ _ D.TOz hTO)
  refine wpAny_bind (wpAny_seqItems hTO₂ rfl ?_)
  refine wpAny_bind (wpAny_updateSeq_pair hTO₂ fun h₃ hTO₃ hs₃ => ?_)
  replace hTO₃ : IsPair h₃ TO x b := hTO₃
  refine wpAny_bind (wpAny_letGo (wpAny_pure ?_))
  refine wpAny_bind (wpAny_bind (wpAny_onRaise ?_))
  show wpAny _ _ (Builtin.SmallTypes.nextOf (.ref i2) >>= _) _ _ _
  refine wpAny_bind (D2.item k _ _ _ hy (f2 h2 fun o e => hs₃.extBut _ _ D.TOi2.symm (hs₂.extBut _ _ D.i12.symm (hs₁.extBut _ _ D.i2z e))) fun y h₄ tk₄ py h2₄ hs₄ => wpAny_pure ?_)
  have hTO₄ : IsPair h₄ TO x b := hs₄.extBut _ _ D.TOi2 hTO₃
  refine wpAny_bind (wpAny_seqItems hTO₄ rfl ?_)
  refine wpAny_bind (wpAny_updateSeq_pair hTO₄ fun h₅ hTO₅ hs₅ => ?_)
  replace hTO₅ : IsPair h₅ TO x y := hTO₅
  refine wpAny_bind (wpAny_letGo (wpAny_pure (wpAny_pure ?_)))
  refine wpAny_bind (wpAny_seqItems hTO₅ rfl ?_)
  refine wpAny_bind (wpAny_newTuple ?_)
  have hsz : h₅.objs.size = s.heap.objs.size := by rw [hs₅.1, hs₄.1, hs₃.1, hs₂.1, hs₁.1]
  have hz₅ : IsZip h₅ z TI TO .ellipsis := hs₅.extBut _ _ D.TOz.symm (hs₄.extBut _ _ D.i2z.symm (hs₃.extBut _ _ D.TOz.symm (hs₂.extBut _ _ D.i1z.symm hz₁)))
  have hk₅ : ∀ c o, c ≠ z → c ≠ TO → c ≠ i1 → c ≠ i2 → s.heap.get? c = some o → h₅.get? c = some o := fun c o c1 c2 c3 c4 e =>
    hs₅.extBut _ _ c2 (hs₄.extBut _ _ c4 (hs₃.extBut _ _ c2 (hs₂.extBut _ _ c3 (hs₁.extBut _ _ c1 e))))
  have h1₅ : S1 (k + 1) h₅ := f1 h1₂ fun o e => hs₅.extBut _ _ D.TOi1.symm (hs₄.extBut _ _ D.i12 (hs₃.extBut _ _ D.TOi1.symm e))
  have h2₅ : S2 (k + 1) h₅ := f2 h2₄ fun o e => hs₅.extBut _ _ D.TOi2.symm e
  have hzlt : z < h₅.objs.size := Heap.lt_size hz₅
  have hTOlt : TO < h₅.objs.size := Heap.lt_size hTO₅
  show wpAny _ _ (Builtin.SmallTypes.ownedTupleHandOut (.ref z) (.ref h₅.objs.size) >>= _) _ _ _
  refine wpAny_bind ?_
  unfold Builtin.SmallTypes.ownedTupleHandOut
  have hz₆ : IsZip (h₅.push { cls := .type "tuple", data := .seq #[x, y] }) z TI TO .ellipsis := Heap.get?_push_of_some _ hz₅
  refine wpAny_bind (wpAny_setField_rec hz₆ (by simp) fun h₇ hz₇ hs₇ => ?_)
  replace hz₇ : IsZip h₇ z TI TO (rawInt h₅.objs.size) := hz₇
  refine wpAny_setField_rec hz₇ (by simp) fun h₈ hz₈ hs₈ => ?_
  replace hz₈ : IsZip h₈ z TI TO (rawInt h₅.objs.size) := hz₈
  have up : ∀ c o, c ≠ z → h₅.get? c = some o → h₈.get? c = some o := fun c o c1 e => hs₈.extBut _ _ c1 (hs₇.extBut _ _ c1 (Heap.get?_push_of_some _ e))
  have hT₈ : IsPair h₈ h₅.objs.size x y := hs₈.extBut _ _ (Nat.ne_of_gt hzlt) (hs₇.extBut _ _ (Nat.ne_of_gt hzlt) (Heap.get?_push_size _ rfl))
  have hz8 : h₈.objs.size = h₅.objs.size + 1 := by rw [hs₈.1, hs₇.1, Heap.size_push]
  rw [hsz] at hz₈ hT₈ hz8
  refine wpAny_pure ⟨_, rfl, ?_⟩
  show Q (.ref h₅.objs.size) _
  rw [hsz]
  exact hQ x y h₈ tk₄ px py hz₈ (up _ _ D.TOz hTO₅) (f1 h1₅ fun o e => up _ o D.i1z e) (f2 h2₅ fun o e => up _ o D.i2z e) hT₈ hz8 fun c o c1 c2 c3 c4 e => up c o c1 (hk₅ c o c1 c2 c3 c4 e)

theorem zip_next_endS {z TI TO i1 i2 : Addr} {n1 n2 k : Nat} {P1 P2 : Nat → Value → Prop} {S1 S2 : Nat → Heap → Prop} {a b : Value} {Q : Fin → Shared → Prop} (D : ZipApart z TI TO i1 i2 TI TI)
    (D1 : Draws prog w A i1 [i1] n1 P1 S1) (D2 : Draws prog w A i2 [i2] n2 P2 S2)
    (hz : IsZip s.heap z TI TO .none) (hTI : IsPair s.heap TI (.ref i1) (.ref i2)) (hTO : IsPair s.heap TO a b)
    (h1 : S1 k s.heap) (h2 : S2 k s.heap) (hend : (k = n1) ∨ (k < n1 ∧ k = n2))
    (hE : ∀ h' e tk, (∀ c o, c ≠ z → c ≠ TO → c ≠ i1 → c ≠ i2 → s.heap.get? c = some o → h'.get? c = some o) → (∃ o, h'.get? e = some o ∧ o.cls = .type "StopIteration") → E (.ref e) { s with heap := h', toks := tk }) :
    wpAny (model prog w) A (Builtin.«zip.__next__» ⟨[.ref z], []⟩) Q E s := by
  have f1 : ∀ {i : Nat} {h h' : Heap}, S1 i h → (∀ o, h.get? i1 = some o → h'.get? i1 = some o) → S1 i h' := fun st q => D1.frame _ _ _ st fun b hb o e => by
    rw [List.mem_singleton.mp hb] at e ⊢; exact q o e
  have f2 : ∀ {i : Nat} {h h' : Heap}, S2 i h → (∀ o, h.get? i2 = some o → h'.get? i2 = some o) → S2 i h' := fun st q => D2.frame _ _ _ st fun b hb o e => by
    rw [List.mem_singleton.mp hb] at e ⊢; exact q o e
  show wpAny _ _ (field (.ref z) 2 >>= _) _ _ _
  refine wpAny_bind (wpAny_field hz rfl (x := .bool false) rfl ?_)
  show wpAny _ _ (field (.ref z) 3 >>= _) _ _ _
  refine wpAny_bind (wpAny_field hz rfl (x := .ref TI) rfl ?_)
  refine wpAny_bind (wpAny_seqItems hTI rfl ?_)
  show wpAny _ _ (Builtin.SmallTypes.ownedTupleIsFree (.ref z) >>= _) _ _ _
  refine wpAny_bind ?_
  unfold Builtin.SmallTypes.ownedTupleIsFree
  refine wpAny_bind (wpAny_field hz rfl (x := .none) rfl (wpAny_pure ?_))
  simp only [if_true]
  refine wpAny_bind (wpAny_rule ?_)
  refine wpAny_bind (wpAny_field hz rfl (x := .ref TO) rfl ?_)
  refine wpAny_bind (wpAny_setField_rec hz (by simp) fun h₁ hz₁ hs₁ => ?_)
  replace hz₁ : IsZip h₁ z TI TO .ellipsis := hz₁
  refine wpAny_bind ?_
  simp only [List.zipIdx_cons, List.zipIdx_nil, List.forIn_cons, List.forIn_nil]
  refine wpAny_bind (wpAny_bind (wpAny_onRaise ?_))
  show wpAny _ _ (Builtin.SmallTypes.nextOf (.ref i1) >>= _) _ _ _
  rcases hend with rfl | ⟨hlt, rfl⟩
  · refine wpAny_bind (D1.done _ _ _ (f1 h1 fun o e => hs₁.extBut _ _ D.i1z e) fun h₂ e hs₂ he => ?_)
    obtain ⟨oe, hoe, hce⟩ := he
    have hz₂ : IsZip h₂ z TI TO .ellipsis := hs₂ _ _ D.i1z.symm hz₁
    have hez : e ≠ z := fun x => by subst x; rw [hz₂] at hoe; cases hoe; simp at hce
    refine wpAny_setField_rec hz₂ (by simp) fun h₃ _ hs₃ => hE h₃ e _ (fun c o c1 _ c3 _ x => hs₃.extBut _ _ c1 (hs₂ _ _ c3 (hs₁.extBut _ _ c1 x))) ⟨oe, hs₃.extBut _ _ hez hoe, hce⟩
  · refine wpAny_bind (D1.item _ _ _ _ hlt (f1 h1 fun o e => hs₁.extBut _ _ D.i1z e) fun x h₂ tk₂ px h1₂ hs₂ => wpAny_pure ?_)
    have hTO₂ : IsPair h₂ TO a b := hs₂.extBut _ _ D.TOi1 (hs₁.extBut _ _ D.TOz hTO)
    refine wpAny_bind (wpAny_seqItems hTO₂ rfl ?_)
    refine wpAny_bind (wpAny_updateSeq_pair hTO₂ fun h₃ hTO₃ hs₃ => ?_)
    refine wpAny_bind (wpAny_letGo (wpAny_pure ?_))
    refine wpAny_bind (wpAny_bind (wpAny_onRaise ?_))
    show wpAny _ _ (Builtin.SmallTypes.nextOf (.ref i2) >>= _) _ _ _
    refine wpAny_bind (D2.done _ _ _ (f2 h2 fun o e => hs₃.extBut _ _ D.TOi2.symm (hs₂.extBut _ _ D.i12.symm (hs₁.extBut _ _ D.i2z e))) fun h₄ e hs₄ he => ?_)
    obtain ⟨oe, hoe, hce⟩ := he
    have hz₄ : IsZip h₄ z TI TO .ellipsis := hs₄ _ _ D.i2z.symm (hs₃.extBut _ _ D.TOz.symm (hs₂.extBut _ _ D.i1z.symm hz₁))
    have hez : e ≠ z := fun x => by subst x; rw [hz₄] at hoe; cases hoe; simp at hce
    refine wpAny_setField_rec hz₄ (by simp) fun h₅ _ hs₅ => hE h₅ e _ (fun c o c1 c2 c3 c4 x => hs₅.extBut _ _ c1 (hs₄ _ _ c4 (hs₃.extBut _ _ c2 (hs₂.extBut _ _ c3 (hs₁.extBut _ _ c1 x))))) ⟨oe, hs₅.extBut _ _ hez hoe, hce⟩

theorem pyNext_zip_itemS {z TI TO i1 i2 : Addr} {n1 n2 k : Nat} {P1 P2 : Nat → Value → Prop} {S1 S2 : Nat → Heap → Prop} {a b : Value} {Q : Option Value → Shared → Prop} (D : ZipApart z TI TO i1 i2 TI TI)
    (D1 : Draws prog w A.in1 i1 [i1] n1 P1 S1) (D2 : Draws prog w A.in1 i2 [i2] n2 P2 S2)
    (hz : IsZip s.heap z TI TO .none) (hTI : IsPair s.heap TI (.ref i1) (.ref i2)) (hTO : IsPair s.heap TO a b)
    (h1 : S1 k s.heap) (h2 : S2 k s.heap) (hx : k < n1) (hy : k < n2)
    (hQ : ∀ x y h' tk, P1 k x → P2 k y → IsZip h' z TI TO (rawInt s.heap.objs.size) → IsPair h' TO x y → S1 (k + 1) h' → S2 (k + 1) h' → IsPair h' s.heap.objs.size x y → h'.objs.size = s.heap.objs.size + 1 →
      (∀ c o, c ≠ z → c ≠ TO → c ≠ i1 → c ≠ i2 → s.heap.get? c = some o → h'.get? c = some o) → Q (some (.ref s.heap.objs.size)) { s with heap := h', toks := tk }) :
    wpAny (model prog w) A (pyNext (.ref z)) Q E s := by
  have hT : s.TypeIs (.ref z) "zip" := ⟨_, hz, rfl⟩
  unfold pyNext
  exact wpAny_bind (wpAny_attempt (wpAny_callSpecial?_slot (name := Str.ofString "__next__") hT F.slot_zip_next
    (wpAny_call_entry F.slot_zip_next hT F.entry_zip_next
      (zip_next_itemS D D1 D2 hz hTI hTO h1 h2 hx hy fun x y h' tk p1 p2 a1 a2 a3 a4 a5 a6 a7 => wpAny_pure (hQ x y h' tk p1 p2 a1 a2 a3 a4 a5 a6 a7)) (F.args_zip_next_1 _))))
theorem pyNext_zip_endS {z TI TO i1 i2 : Addr} {n1 n2 k : Nat} {P1 P2 : Nat → Value → Prop} {S1 S2 : Nat → Heap → Prop} {a b : Value} {Q : Option Value → Shared → Prop} (D : ZipApart z TI TO i1 i2 TI TI)
    (D1 : Draws prog w A.in1 i1 [i1] n1 P1 S1) (D2 : Draws prog w A.in1 i2 [i2] n2 P2 S2)
    (hz : IsZip s.heap z TI TO .none) (hTI : IsPair s.heap TI (.ref i1) (.ref i2)) (hTO : IsPair s.heap TO a b)
    (h1 : S1 k s.heap) (h2 : S2 k s.heap) (hend : (k = n1) ∨ (k < n1 ∧ k = n2))
    (hQ : ∀ h' tk, (∀ c o, c ≠ z → c ≠ TO → c ≠ i1 → c ≠ i2 → s.heap.get? c = some o → h'.get? c = some o) → Q none { s with heap := h', toks := tk }) : wpAny (model prog w) A (pyNext (.ref z)) Q E s := by
  have hT : s.TypeIs (.ref z) "zip" := ⟨_, hz, rfl⟩
  unfold pyNext
  refine wpAny_bind (wpAny_attempt (wpAny_callSpecial?_slot (name := Str.ofString "__next__") hT F.slot_zip_next
    (wpAny_call_entry F.slot_zip_next hT F.entry_zip_next (zip_next_endS D D1 D2 hz hTI hTO h1 h2 hend fun h' e tk hk he => ?_) (F.args_zip_next_1 _))))
  obtain ⟨o, ho, hc⟩ := he
  refine wpAny_bind (wpAny_isInstance (T := "StopIteration") (b := true) ⟨o, ho, hc⟩ isSubtype_stop ?_)
  exact wpAny_pure (hQ _ tk hk)
end
abbrev zsH1 (h : Heap) (x : Str) (t : Tok) : Heap := h.push { cls := .type (strIterType x), data := .fields #[.str x t, .int 0 0] }
abbrev zsH2 (h : Heap) (x : Str) (t : Tok) (y : Str) (u : Tok) : Heap := (zsH1 h x t).push { cls := .type (strIterType y), data := .fields #[.str y u, .int 0 0] }
abbrev zsH3 (h : Heap) (x : Str) (t : Tok) (y : Str) (u : Tok) : Heap := (zsH2 h x t y u).push { cls := .type "tuple", data := .seq #[.ref h.objs.size, .ref (zsH1 h x t).objs.size] }
abbrev zsH4 (h : Heap) (x : Str) (t : Tok) (y : Str) (u : Tok) : Heap := (zsH3 h x t y u).push { cls := .type "tuple", data := .seq #[.none, .none] }
abbrev zsH5 (h : Heap) (x : Str) (t : Tok) (y : Str) (u : Tok) : Heap := (zsH4 h x t y u).push { cls := .type "zip", data := .fields #[.none, .bool false, .bool false, .ref (zsH2 h x t y u).objs.size, .ref (zsH3 h x t y u).objs.size] }
set_option maxHeartbeats 2000000 in
theorem meets_zip_newS (x : Str) (t : Tok) (y : Str) (u : Tok) :
    Meets (Builtin.«zip.__new__» ⟨[.type "zip", .str x t, .str y u], []⟩) (fun _ R s =>
      R (.ok (.ret (.ref (zsH4 s.heap x t y u).objs.size))) { s with heap := zsH5 s.heap x t y u }) :=
  .of_wp fun prog w A R s h => by
    obtain ⟨hp, g, d, tk, os⟩ := s
    have hsub := sub_zip
    wp_walk using wpAny_pyIter_strU
    exact ⟨_, rfl, h⟩
section
variable {prog : Program} {w : World} {A : Around} {E : Value → Shared → Prop} {s : Shared}
theorem call_zip_S {x : Str} {t : Tok} {y : Str} {u : Tok} {Q : Value → Shared → Prop}
    (h : ∀ h', IsZip h' (s.heap.objs.size + 4) (s.heap.objs.size + 2) (s.heap.objs.size + 3) .none → IsPair h' (s.heap.objs.size + 2) (.ref s.heap.objs.size) (.ref (s.heap.objs.size + 1)) →
      IsPair h' (s.heap.objs.size + 3) .none .none → h'.IsStrIter s.heap.objs.size (strIterType x) x t 0 → h'.IsStrIter (s.heap.objs.size + 1) (strIterType y) y u 0 → h'.objs.size = s.heap.objs.size + 5 →
      (∀ c o, s.heap.get? c = some o → h'.get? c = some o) → Q (.ref (s.heap.objs.size + 4)) { s with heap := h' }) :
    wpAny (model prog w) A (call (.type "zip") [.str x t, .str y u]) Q E s := by
  refine callType_new F.called_zip (by decide) (F.typeCall_zip_2 _ _) (F.newCall_zip_2 _ _) (fun obj => F.args_object_init_3 obj _ _) F.entry_zip_new
    (meets_zip_newS x t y u) ?_
  have z1 : (zsH1 s.heap x t).objs.size = s.heap.objs.size + 1 := Heap.size_push ..
  have z2 : (zsH2 s.heap x t y u).objs.size = s.heap.objs.size + 2 := by rw [Heap.size_push, z1]
  have z3 : (zsH3 s.heap x t y u).objs.size = s.heap.objs.size + 3 := by rw [Heap.size_push, z2]
  have z4 : (zsH4 s.heap x t y u).objs.size = s.heap.objs.size + 4 := by rw [Heap.size_push, z3]
  have z5 : (zsH5 s.heap x t y u).objs.size = s.heap.objs.size + 5 := by rw [Heap.size_push, z4]
  have g5 : (zsH5 s.heap x t y u).get? (zsH4 s.heap x t y u).objs.size = some _ := Heap.get?_push_size _ rfl
  have g4 : (zsH5 s.heap x t y u).get? (zsH3 s.heap x t y u).objs.size = some _ := Heap.get?_push_of_some _ (Heap.get?_push_size _ rfl)
  have g3 : (zsH5 s.heap x t y u).get? (zsH2 s.heap x t y u).objs.size = some _ := Heap.get?_push_of_some _ (Heap.get?_push_of_some _ (Heap.get?_push_size _ rfl))
  have g2 : (zsH5 s.heap x t y u).get? (zsH1 s.heap x t).objs.size = some _ := Heap.get?_push_of_some _ (Heap.get?_push_of_some _ (Heap.get?_push_of_some _ (Heap.get?_push_size _ rfl)))
  have g1 : (zsH5 s.heap x t y u).get? s.heap.objs.size = some _ := Heap.get?_push_of_some _ (Heap.get?_push_of_some _ (Heap.get?_push_of_some _ (Heap.get?_push_of_some _ (Heap.get?_push_size _ rfl))))
  show _ ∧ _
  rw [z2, z3, z4] at g5
  rw [z1, z2] at g3
  rw [z3] at g4
  rw [z1] at g2
  rw [z4]
  exact ⟨⟨_, g5, rfl⟩, h _ g5 g3 g4 ⟨_, g1, rfl, rfl⟩ ⟨_, g2, rfl, rfl⟩ z5 fun c o q =>
    Heap.get?_push_of_some _ (Heap.get?_push_of_some _ (Heap.get?_push_of_some _ (Heap.get?_push_of_some _ (Heap.get?_push_of_some _ q))))⟩
theorem Draws.str (hh : A.handled = none) (it : Addr) (x : Str) (t : Tok) :
    Draws prog w A it [it] x.cps.size (fun i v => ∃ c u, x.cps[i]? = some c ∧ v = .str ⟨#[c]⟩ u) (fun i h => h.IsStrIter it (strIterType x) x t i) := by
  cases ha : x.cps.all (· < 128)
  · have e : strIterType x = "str_iterator" := by simp [strIterType, ha]
    rw [e]; exact Draws.strWide hh it x t
  · have e : strIterType x = "str_ascii_iterator" := by simp [strIterType, ha]
    rw [e]; exact Draws.strAscii hh it x t
end
end PySem
namespace L2
open PySem PySem.Spec PyProof.Rows
/-- two texts side by side, the signs in new pairs -/
def Itzs (x y : Str) : It :=
  ⟨fun i _ => i < x.cps.size ∧ i < y.cps.size,
    fun i H v H' => ∃ T c d, v = .ref T ∧ H T = none ∧ H' = upd H T (.tup [.str ⟨#[c]⟩, .str ⟨#[d]⟩]) ∧ x.cps[i]? = some c ∧ y.cps[i]? = some d,
    fun i _ => i = x.cps.size ∨ (i < x.cps.size ∧ i = y.cps.size)⟩
theorem turn_zipS {P : Program} {w : World} {K : PySem.W.Frag} {elts : List Expr} {kk : Nat} {tpos : Pos} {x y : Str} {t u : Tok} {z TI TO i1 i2 : Addr} (D : ZipApart z TI TO i1 i2 TI TI) :
    Turn P w K (.Tuple elts kk tpos) (Itzs x y) [z, TI, TO, i1, i2] z (fun i h => IsZip h z TI TO .none ∧ IsPair h TI (.ref i1) (.ref i2) ∧ (∃ a b, IsPair h TO a b) ∧ h.IsStrIter i1 (strIterType x) x t i ∧ h.IsStrIter i2 (strIterType y) y u i) where
  mem := by simp
  obj := fun i h st c hc => by
    obtain ⟨hz, hTI, ⟨x, y, hTO⟩, ⟨o1, e1, _, d1⟩, ⟨o2, e2, _, d2⟩⟩ := st
    have e' : c = z ∨ c = TI ∨ c = TO ∨ c = i1 ∨ c = i2 := by simpa using hc
    rcases e' with q | q | q | q | q
    · rw [q]; exact ⟨_, hz, fun v q => nomatch q⟩
    · rw [q]; exact ⟨_, hTI, fun v q => nomatch q⟩
    · rw [q]; exact ⟨_, hTO, fun v q => nomatch q⟩
    · rw [q]; exact ⟨o1, e1, fun v q => by rw [d1] at q; cases q⟩
    · rw [q]; exact ⟨o2, e2, fun v q => by rw [d2] at q; cases q⟩
  keep := fun i h h' st k => by
    obtain ⟨hz, hTI, ⟨x, y, hTO⟩, ⟨o1, e1, r1⟩, ⟨o2, e2, r2⟩⟩ := st
    exact ⟨k z (by simp) _ hz, k TI (by simp) _ hTI, ⟨x, y, k TO (by simp) _ hTO⟩, ⟨o1, k i1 (by simp) _ e1, r1⟩, ⟨o2, k i2 (by simp) _ e2, r2⟩⟩
  item := by
    intro X hP hw hK hc i pins s σ H E I hf st hg
    subst hP hw hK
    obtain ⟨hz, hTI, ⟨x0, y0, hTO⟩, h1, h2⟩ := st
    have hzl : z < s.heap.objs.size := Heap.lt_size hz
    have hh : X.A.in1.handled = none := I.ok.hd hc
    refine pyNext_zip_itemS D (Draws.str hh i1 x t) (Draws.str hh i2 y u) hz hTI hTO h1 h2 hg.1 hg.2 fun v1 v2 h' tk p1 p2 z' TO' h1' h2' hT hsz hk => ?_
    obtain ⟨c, uc, hcx, rfl⟩ := p1
    obtain ⟨d, ud, hdx, rfl⟩ := p2
    refine ⟨_, rfl, wpAny_letOwnedTupleGo_zip (s := { s with heap := h', toks := tk }) z' fun h'' z'' sb => ?_⟩
    have hT2 : h''.get? s.heap.objs.size = some { cls := .type "tuple", data := .seq #[.str ⟨#[c]⟩ uc, .str ⟨#[d]⟩ ud] } := (sb.2 _ (Nat.ne_of_gt hzl)).trans hT
    have new : ObjOk X.prog X.w (upd H s.heap.objs.size (.tup [.str ⟨#[c]⟩, .str ⟨#[d]⟩])) h'' s.heap.objs.size (.tup [.str ⟨#[c]⟩, .str ⟨#[d]⟩]) :=
      ⟨by show 2 ≤ sizeLine; decide, [.str ⟨#[c]⟩ uc, .str ⟨#[d]⟩ ud], .cons ⟨_, rfl⟩ (.cons ⟨_, rfl⟩ .nil), ⟨_, hT2, rfl, _, rfl⟩⟩
    have I1 : Inv X pins σ (upd H s.heap.objs.size (.tup [.str ⟨#[c]⟩, .str ⟨#[d]⟩])) { s with heap := h'', toks := tk } :=
      I.turnedNew (t' := tk) (ch := [z, TI, TO, i1, i2]) (fun c o hb q => (sb.2 c (fun q' => hb (by simp [q']))).trans (hk c o (fun q' => hb (by simp [q'])) (fun q' => hb (by simp [q'])) (fun q' => hb (by simp [q'])) (fun q' => hb (by simp [q'])) q)) hf (Nat.le_refl _) new
    refine ⟨.ref s.heap.objs.size, _, I1, rfl, ⟨_, c, d, rfl, I.hok.fresh (Nat.le_refl _), rfl, hcx, hdx⟩, ⟨z'', ?_, ⟨.str ⟨#[c]⟩ uc, .str ⟨#[d]⟩ ud, ?_⟩, ?_, ?_⟩, fun c hcm => ?_⟩
    · exact (sb.2 _ D.TIz).trans (hk _ _ D.TIz D.TITO D.TIi1 D.TIi2 hTI)
    · exact (sb.2 _ D.TOz).trans TO'
    · obtain ⟨o1, e1, r1⟩ := h1'
      exact ⟨o1, (sb.2 _ D.i1z).trans e1, r1⟩
    · obtain ⟨o1, e1, r1⟩ := h2'
      exact ⟨o1, (sb.2 _ D.i2z).trans e1, r1⟩
    · have hlt : c < s.heap.objs.size := by
        have e' : c = z ∨ c = TI ∨ c = TO ∨ c = i1 ∨ c = i2 := by simpa using hcm
        rcases e' with q | q | q | q | q
        · rw [q]; exact hzl
        · rw [q]; exact Heap.lt_size hTI
        · rw [q]; exact Heap.lt_size hTO
        · rw [q]; obtain ⟨_, e1, _⟩ := h1; exact Heap.lt_size e1
        · rw [q]; obtain ⟨_, e2, _⟩ := h2; exact Heap.lt_size e2
      rw [upd_ne (Nat.ne_of_lt hlt)]
      exact (hf c hcm).1
  done := by
    intro X hP hw hK hc i pins s σ H E I hf st hg
    subst hP hw hK
    obtain ⟨hz, hTI, ⟨x0, y0, hTO⟩, h1, h2⟩ := st
    have hh : X.A.in1.handled = none := I.ok.hd hc
    exact pyNext_zip_endS D (Draws.str hh i1 x t) (Draws.str hh i2 y u) hz hTI hTO h1 h2 hg fun h' tk hk => ⟨rfl, I.turnedL (t' := tk) (ch := [z, TI, TO, i1, i2]) (fun c o hb q =>
      hk c o (fun q' => hb (by simp [q'])) (fun q' => hb (by simp [q'])) (fun q' => hb (by simp [q'])) (fun q' => hb (by simp [q'])) q) hf⟩
  self := fun A i s Q E st h => wpAny_pyIter_zip st.1 h
def iZipS (ta : TA) : TI := fun σ H R => ta σ H fun vs H1 => ∃ x y, vs = [.str x, .str y] ∧ R (Itzs x y) H1
theorem zipApart_at (n : Nat) : ZipApart (n + 4) (n + 2) (n + 3) n (n + 1) (n + 2) (n + 2) := by
  constructor <;> (intro h; have h' : (_ : Nat) = _ := h; omega)
theorem pi_zipS {X : Cx} {e e2 : Expr} {ta : TA} {p pos tpos : Pos} {elts : List Expr} {kk : Nat} (hg : Gl X "zip") (hm : X.mg "zip" = none) (ha : PA X [e, e2] ta)
    (hs : starEach [e, e2] X.env = (false, eval e X.env) :: starEach [e2] X.env := by rfl) (hpl : (backTo pos (starEach [e2] X.env)).any (·.1) = false := by rfl) :
    PI X (.Tuple elts kk tpos) (.Call (.Name "zip" p) [e, e2] [] pos) (iZipS ta) := by
  intro pins s σ H R I h
  refine Call_ (ld_blt I hg hm boot_zip5 (PyProof.Rows.callWith_type1 (thn (ha pos pins s σ H _ I h) fun us s1 ⟨vs, H1, I1, r1, q1⟩ => ?_) hs hpl))
  obtain ⟨x, y, ex, q⟩ := q1
  subst ex
  cases r1 with
  | cons r rr =>
    cases rr with
    | cons r' rr =>
      cases rr
      obtain ⟨t, rfl⟩ := r
      obtain ⟨u, rfl⟩ := r'
      refine call_zip_S fun h' hz hTI hTO h1 h2 hsz hk => wpAny_pyIter_zip hz ?_
      have I2 : Inv X pins σ H1 { s1 with heap := h' } := I1.kept (t' := s1.toks) hk
      refine ⟨s1.heap.objs.size + 4, [s1.heap.objs.size + 4, s1.heap.objs.size + 2, s1.heap.objs.size + 3, s1.heap.objs.size, s1.heap.objs.size + 1], _, _, H1, rfl, I2, turn_zipS (t := t) (u := u) (zipApart_at s1.heap.objs.size), ⟨hz, hTI, ⟨_, _, hTO⟩, h1, h2⟩, fun c hcm => ?_, q⟩
      have e' : c = s1.heap.objs.size + 4 ∨ c = s1.heap.objs.size + 2 ∨ c = s1.heap.objs.size + 3 ∨ c = s1.heap.objs.size ∨ c = s1.heap.objs.size + 1 := by simpa using hcm
      have hle : s1.heap.objs.size ≤ c := by
        rcases e' with z | z | z | z | z
        · rw [z]; exact Nat.le_add_right _ _
        · rw [z]; exact Nat.le_add_right _ _
        · rw [z]; exact Nat.le_add_right _ _
        · rw [z]; exact Nat.le_refl _
        · rw [z]; exact Nat.le_add_right _ _
      exact I1.fpOk hle (I1.hok.fresh hle)
end L2

/-! enumerate of a tuple; loops and comprehensions over any walk of n turns. -/
namespace PySem
open Sem (wp)
open AutoSeq1 (wpAny_loadPart')
section
variable {prog : Program} {w : World} {A : Around} {E : Value → Shared → Prop} {s : Shared}
theorem nextOf_tuple_item {it t : Addr} {i : Nat} {items} {x : Value} {Q : Value → Shared → Prop} (hit : s.heap.IsTupleIter it t i)
    (ht : s.heap.IsTuple t items) (hx : items[i]? = some x)
    (hQ : ∀ h', h'.IsTupleIter it t (i + 1) → Heap.SameBut it s.heap h' → Q x { s with heap := h' }) :
    wpAny (model prog w) A (Builtin.SmallTypes.nextOf (.ref it)) Q E s := by
  obtain ⟨o, ho, hc, hd⟩ := id hit
  obtain ⟨ol, hol, _, nl, hdl⟩ := ht
  unfold Builtin.SmallTypes.nextOf
  refine wpAny_bind (wpAny_callSpecial?_slot (name := Str.ofString "__next__") hit.typeIs F.slot_tuple_iterator_next
    (wpAny_call_entry F.slot_tuple_iterator_next hit.typeIs F.entry_tuple_iterator_next ?_ (F.args_tuple_iterator_next_1 _)))
  show wpAny _ _ (field (.ref it) 0 >>= _) _ _ s
  refine wpAny_bind (wpAny_field ho hd (x := .ref t) rfl ?_)
  show wpAny _ _ (if (Value.ref t == Value.none) = true then _ else _) _ _ s
  rw [if_neg (show ¬ ((Value.ref t == Value.none) = true) from Bool.false_ne_true)]
  show wpAny _ _ (field (.ref it) 1 >>= _) _ _ s
  refine wpAny_bind (wpAny_field ho hd (x := .int i 0) rfl ?_)
  show wpAny _ _ (seqItems? (.ref t) >>= _) _ _ s
  refine wpAny_bind (wpAny_seqItems hol hdl ?_)
  simp only [Int.toNat_natCast, hx]
  refine wpAny_bind (wpAny_setField ho hd (by simp) (wpAny_pure ⟨x, rfl, wpAny_pure (hQ _ ?_ (Heap.SameBut.update ..))⟩))
  exact ⟨_, Heap.get?_update_self _ ho (Obj.isFreed_of_fields (Obj.data_mapFields hd _)), (Obj.cls_mapFields ..).trans hc, by
    rw [Obj.data_mapFields hd]; simp [rawInt]⟩
theorem nextOf_tuple_end {it t : Addr} {i : Nat} {items} {Q : Value → Shared → Prop} (hh : A.handled = none)
    (hit : s.heap.IsTupleIter it t i) (ht : s.heap.IsTuple t items) (hx : items[i]? = none)
    (hE : ∀ h' e, Heap.ExtBut it s.heap h' → (∃ o, h'.get? e = some o ∧ o.cls = .type "StopIteration") → E (.ref e) { s with heap := h' }) :
    wpAny (model prog w) A (Builtin.SmallTypes.nextOf (.ref it)) Q E s := by
  obtain ⟨o, ho, hc, hd⟩ := id hit
  obtain ⟨ol, hol, _, nl, hdl⟩ := ht
  unfold Builtin.SmallTypes.nextOf
  refine wpAny_bind (wpAny_callSpecial?_slot (name := Str.ofString "__next__") hit.typeIs F.slot_tuple_iterator_next
    (wpAny_call_entry F.slot_tuple_iterator_next hit.typeIs F.entry_tuple_iterator_next ?_ (F.args_tuple_iterator_next_1 _)))
  show wpAny _ _ (field (.ref it) 0 >>= _) _ _ s
  refine wpAny_bind (wpAny_field ho hd (x := .ref t) rfl ?_)
  show wpAny _ _ (if (Value.ref t == Value.none) = true then _ else _) _ _ s
  rw [if_neg (show ¬ ((Value.ref t == Value.none) = true) from Bool.false_ne_true)]
  show wpAny _ _ (field (.ref it) 1 >>= _) _ _ s
  refine wpAny_bind (wpAny_field ho hd (x := .int i 0) rfl ?_)
  show wpAny _ _ (seqItems? (.ref t) >>= _) _ _ s
  refine wpAny_bind (wpAny_seqItems hol hdl ?_)
  simp only [Int.toNat_natCast, hx]
  refine wpAny_bind (wpAny_rule (wpAny_bind (wpAny_setField ho hd (by simp) ?_)))
  show wpAny _ _ (newExc (.type "StopIteration") [] >>= _) _ _ _
  refine wpAny_bind ?_
  simp only [newExc, newTuple]
  refine wpAny_bind (wpAny_newObj_type ?_ (by size_fits))
  refine wpAny_bind (m := firstArgMember _ _) (wpAny_of_eq (a := Value.none) (by first | rfl | (simp only [firstArgMember]; rfl)) ?_)
  refine wpAny_newObj_type ?_ (by size_fits)
  simp only [raiseNew]
  refine wpAny_bind (wpAny_handled ?_)
  first | rw [show A.in1.handled = none from hh] | rw [hh]
  refine wpAny_bind (wpAny_pure (wpAny_throw ?_))
  exact hE _ _ (((Heap.SameBut.update ..).extBut.push _).push _) ⟨_, Heap.get?_push_size _ rfl, rfl⟩
end
theorem Draws.tuple {prog : Program} {w : World} {A : Around} (hh : A.handled = none) (it l : Addr) (hne : l ≠ it) (items : Array Value) :
    Draws prog w A it [it, l] items.size (fun i v => items[i]? = some v) (fun i h => h.IsTupleIter it l i ∧ h.IsTuple l items) where
  live := fun _ _ st => let ⟨o, ho, _⟩ := st.1; ⟨o, ho⟩
  frame := fun _ _ _ st hk => by
    obtain ⟨⟨o, ho, r⟩, ⟨o2, ho2, r2⟩⟩ := st
    exact ⟨⟨o, hk it (by simp) o ho, r⟩, ⟨o2, hk l (by simp) o2 ho2, r2⟩⟩
  item := fun i s Q E hi st hQ => by
    refine nextOf_tuple_item st.1 st.2 (x := items[i]) (by simp [hi]) fun h' hit' hs' => ?_
    exact hQ _ h' s.toks (by simp [hi]) ⟨hit', st.2.extBut hs'.extBut hne⟩ hs'
  done := fun s Q E st hE => nextOf_tuple_end hh st.1 st.2 (by simp) hE
section
variable {prog : Program} {w : World} {A : Around} {E : Value → Shared → Prop} {s : Shared}
end
end PySem
namespace L2
open PySem PySem.Spec PyProof.Rows
/-! ### any walk of n turns -/
theorem for_it {J : It} {n : Nat} {g : TG} {tb : TS} {D : Ends} {σ : St} {H : Hp} (Pv : Nat → St → Hp → Prop) (h0 : Pv 0 σ H)
    (hgo : ∀ i σ H, i < n → Pv i σ H → J.go i H) (hst : ∀ σ H, Pv n σ H → J.stop n H)
    (hs : ∀ i x σ H H', i < n → Pv i σ H → J.yld i H x H' → g x σ H' fun σ2 H2 => tb { D with nx := Pv (i + 1), ct := Pv (i + 1), bk := D.nx } σ2 H2) (hd : ∀ σ H, Pv n σ H → D.nx σ H) :
    ∃ W : Nat → Nat → St → Hp → Prop, (∃ m, W 0 m σ H) ∧ ∀ i m σ H, W i m σ H →
      (J.stop i H ∧ D.nx σ H) ∨ (J.go i H ∧ ∃ N : St → Hp → Prop, (∀ σ' H', N σ' H' → ∃ m', m' < m ∧ W (i + 1) m' σ' H') ∧ ∀ x H', J.yld i H x H' → g x σ H' fun σ2 H2 => tb { D with nx := N, ct := N, bk := D.nx } σ2 H2) := by
  refine ⟨fun i m σ H => m = n - i ∧ i ≤ n ∧ Pv i σ H, ⟨n, by simp, Nat.zero_le _, h0⟩, ?_⟩
  rintro i m σ H ⟨rfl, hi, p⟩
  by_cases hlt : i < n
  · exact .inr ⟨hgo i σ H hlt p, Pv (i + 1), fun σ' H' p' => ⟨n - (i + 1), by omega, rfl, hlt, p'⟩, fun x H' y => hs i x σ H H' hlt p y⟩
  · have e : i = n := by omega
    subst e
    exact .inl ⟨hst σ H p, hd σ H p⟩
theorem lc_it {J : It} {n : Nat} {g : TG} {tt : TT} {te : TE} {vs : List Nat} {σ : St} {H1 : Hp} {D : Addr} {Qd : Hp → Prop} (Pv : Nat → Hp → Prop) (h0 : Pv 0 (upd H1 D (.lst [])))
    (hgo : ∀ i H, i < n → Pv i H → J.go i H) (hst : ∀ H, Pv n H → J.stop n H)
    (hs : ∀ i x H H', i < n → Pv i H → J.yld i H x H' → g x (wipe σ vs) H' fun σ2 H2 => wipe σ2 vs = wipe σ vs ∧ tt σ2 H2 fun b H3 =>
      if b = true then te σ2 H3 fun y H4 => ∃ acc, H4 D = some (.lst acc) ∧ acc.length < sizeLine ∧ Pv (i + 1) (upd H4 D (.lst (acc ++ [y]))) else Pv (i + 1) H3) (hd : ∀ H, Pv n H → Qd H) :
    ∃ W : Nat → Nat → Hp → Prop, (∃ m, W 0 m (upd H1 D (.lst []))) ∧ ∀ i m H, W i m H →
      (J.stop i H ∧ Qd H) ∨ (J.go i H ∧ ∃ Nx : Hp → Prop, (∀ H', Nx H' → ∃ m', m' < m ∧ W (i + 1) m' H') ∧ ∀ x H', J.yld i H x H' → g x (wipe σ vs) H' fun σ2 H2 => wipe σ2 vs = wipe σ vs ∧ tt σ2 H2 fun b H3 =>
        if b = true then te σ2 H3 fun y H4 => ∃ acc, H4 D = some (.lst acc) ∧ acc.length < sizeLine ∧ Nx (upd H4 D (.lst (acc ++ [y]))) else Nx H3) := by
  refine ⟨fun i m H => m = n - i ∧ i ≤ n ∧ Pv i H, ⟨n, by simp, Nat.zero_le _, h0⟩, ?_⟩
  rintro i m H ⟨rfl, hi, p⟩
  by_cases hlt : i < n
  · exact .inr ⟨hgo i H hlt p, Pv (i + 1), fun H' p' => ⟨n - (i + 1), by omega, rfl, hlt, p'⟩, fun x H' y => hs i x H H' hlt p y⟩
  · have e : i = n := by omega
    subst e
    exact .inl ⟨hst H p, hd H p⟩
/-! ### rules whose reading names the fragment itself (for blocks) -/
section
variable {X : Cx}
def rIsI (K : PySem.W.Frag) : List V → Hp → VK → Prop := fun vs H Q => ∃ x T t b, vs = [x, .ty T] ∧ TyOf K H x t ∧ PySem.W.kitOne K t (.type T) = some b ∧ Q (.bl b) H
theorem call_isinstK (K : PySem.W.Frag) (hK : X.K = K := by rfl) : CallR X (.builtin "isinstance") (rIsI K) := by subst hK; exact call_isinst
def rLenQ (K : PySem.W.Frag) : List V → Hp → VK → Prop := fun xs H Q => ∃ p ys, xs = [.ref p] ∧ (SqL K H p ys ∨ SqT K H p ys) ∧ Q (.int ys.length) H
theorem call_lenK (K : PySem.W.Frag) (hK : X.K = K := by rfl) : CallR X (.builtin "len") (rLenQ K) := by subst hK; exact call_len_seq
theorem ix_listK (K : PySem.W.Frag) (hK : X.K = K := by rfl) : IxR X (rIxL K) := by subst hK; exact ix_list
theorem ix_tupK (K : PySem.W.Frag) (hK : X.K = K := by rfl) : IxR X (rIxT K) := by subst hK; exact ix_tup
def rListOf (K : PySem.W.Frag) : List V → Hp → VK → Prop := fun xs H Q => ∃ p ys, xs = [.ref p] ∧ (SqL K H p ys ∨ SqT K H p ys) ∧ ∀ l, H l = none → Q (.ref l) (upd H l (.lst ys))
theorem call_listK (K : PySem.W.Frag) (hK : X.K = K := by rfl) : CallR X (.type "list") (rListOf K) := by subst hK; exact call_list_of
end
end L2

/-! Machines as data, where they stand, and what reading a word is. -/
namespace Be
open PySem L2
/-! ### small helpers -/
theorem kit_tt {K : PySem.W.Frag} {T U : String} {b : Bool} (h1 : (Value.type T == Value.type U) = false) (h2 : PySem.W.kitMeta U = true) (h3 : (fastBuiltinMro T).map (·.contains (.type U)) = some b) : PySem.W.kitOne K (.type T) (.type U) = some b := by
  unfold PySem.W.kitOne
  rw [h1, if_neg (by decide)]
  show (if PySem.W.kitMeta U = true then PySem.W.subIn K (.type T) (.type U) else none) = some b
  rw [if_pos h2]
  exact h3
theorem kit_int_bool {K : PySem.W.Frag} : PySem.W.kitOne K (.type "int") (.type "bool") = some false := kit_tt (by decide +kernel) (by decide +kernel) (by decide +kernel)
theorem iteD {c A B : Prop} [Decidable c] (hc : c) (h : A) : if decide c = true then A else B := by
  rw [decide_eq_true hc]; exact iteT h
theorem iteND {c A B : Prop} [Decidable c] (hc : ¬ c) (h : B) : if decide c = true then A else B := by
  rw [decide_eq_false hc]; exact iteF h
theorem yesT {σ : St} {H : Hp} {A B : Hp → Prop} (h : A H) : tYes σ H (fun b H3 => if b = true then A H3 else B H3) := by
  show if true = true then A H else B H
  exact iteT h
theorem sz_le {n : Nat} (h : n ≤ 10000000) : n ≤ sizeLine := Nat.le_trans h (by decide)
theorem sz_lt {n : Nat} (h : n ≤ 10000000) : n < sizeLine := Nat.lt_of_le_of_lt h (by decide)
theorem Same.upd {H : Hp} {a : Addr} {o : HO} (h : H a = none) : Same H (L2.upd H a o) := fun b u e => by rw [upd_ne (ne_of_none e h)]; exact e
/-- one tracked place D changed since H, all that H tracks stays -/
theorem Same.put {H H' : Hp} {D : Addr} {o : HO} (s : Same H H') (hD : H D = none) : Same H (L2.upd H' D o) := fun b u e => by
  rw [upd_ne (ne_of_none e hD)]; exact s b u e
abbrev vI (r : List Nat) : List V := r.map fun g => V.int ((g : Nat) : Int)
abbrev vB (r : List Bool) : List V := r.map V.bl
/-- lists within a list -/
def Rows (H : Hp) (rs : List V) (xss : List (List V)) : Prop := Paired (fun r xs => ∃ p, r = V.ref p ∧ H p = some (.lst xs)) rs xss
theorem Rows.same {H H' : Hp} {rs : List V} {xss : List (List V)} (s : Same H H') (h : Rows H rs xss) : Rows H' rs xss :=
  Paired.mapP h fun _ _ ⟨p, e, q⟩ => ⟨p, e, s _ _ q⟩
theorem Paired.at' {α β : Type} {F : α → β → Prop} : ∀ {l₁ : List α} {l₂ : List β} {i : Nat} {b : β}, Paired F l₁ l₂ → l₂[i]? = some b → ∃ a, l₁[i]? = some a ∧ F a b
  | _, _, _, _, .nil, e => by simp at e
  | _, _, 0, _, .cons r _, e => by simp at e; subst e; exact ⟨_, rfl, r⟩
  | _, _, i + 1, _, .cons _ t, e => by
    obtain ⟨a, h1, h2⟩ := Paired.at' (i := i) t (by simpa using e)
    exact ⟨a, by simpa using h1, h2⟩
theorem Paired.to' {α β : Type} {F : α → β → Prop} : ∀ {l₁ : List α} {l₂ : List β} {i : Nat} {a : α}, Paired F l₁ l₂ → l₁[i]? = some a → ∃ b, l₂[i]? = some b ∧ F a b
  | _, _, _, _, .nil, e => by simp at e
  | _, _, 0, _, .cons r _, e => by simp at e; subst e; exact ⟨_, rfl, r⟩
  | _, _, i + 1, _, .cons _ t, e => by
    obtain ⟨a, h1, h2⟩ := Paired.to' (i := i) t (by simpa using e)
    exact ⟨a, by simpa using h1, h2⟩
theorem Paired.len' {α β : Type} {F : α → β → Prop} : ∀ {l₁ : List α} {l₂ : List β}, Paired F l₁ l₂ → l₁.length = l₂.length
  | _, _, .nil => rfl
  | _, _, .cons _ t => by simp [Paired.len' t]
theorem Rows.at {H : Hp} {rs : List V} {xss : List (List V)} {i : Nat} {xs : List V} (h : Rows H rs xss) (e : xss[i]? = some xs) : ∃ p, rs[i]? = some (.ref p) ∧ H p = some (.lst xs) := by
  obtain ⟨r, h1, p, rfl, h2⟩ := Paired.at' h e
  exact ⟨p, h1, h2⟩
theorem Rows.to {H : Hp} {rs : List V} {xss : List (List V)} {i : Nat} {r : V} (h : Rows H rs xss) (e : rs[i]? = some r) : ∃ p xs, r = .ref p ∧ xss[i]? = some xs ∧ H p = some (.lst xs) := by
  obtain ⟨xs, h1, p, rfl, h2⟩ := Paired.to' h e
  exact ⟨p, xs, rfl, h1, h2⟩
theorem Rows.len {H : Hp} {rs : List V} {xss : List (List V)} (h : Rows H rs xss) : rs.length = xss.length := Paired.len' h
theorem Rows.snoc {H : Hp} {rs : List V} {xss : List (List V)} {p : Addr} {xs : List V} (h : Rows H rs xss) (e : H p = some (.lst xs)) : Rows H (rs ++ [.ref p]) (xss ++ [xs]) := Paired.snoc h ⟨p, rfl, e⟩

/-! ### machines -/
structure Mach where
  letters : Str
  moves : List (List Nat)
  ends : List Bool
  mids : List (List Bool)
abbrev Mach.L (M : Mach) : List Nat := M.letters.cps.toList
abbrev Mach.k (M : Mach) : Nat := M.letters.cps.size
abbrev Mach.n (M : Mach) : Nat := M.moves.length
/-- one to three rising letters from a to z -/
structure LetOk (x : Str) : Prop where
  k1 : 1 ≤ x.cps.size
  k3 : x.cps.size ≤ 3
  lo : ∀ c ∈ x.cps.toList, 97 ≤ c
  hi : ∀ c ∈ x.cps.toList, c ≤ 122
  up : ∀ i c d, x.cps[i]? = some c → x.cps[i + 1]? = some d → c < d
structure Mach.OkB (Bd : Nat) (M : Mach) : Prop where
  let_ : LetOk M.letters
  n1 : 1 ≤ M.moves.length
  n40 : M.moves.length ≤ Bd
  rows : ∀ r ∈ M.moves, r.length = M.k * M.k ∧ ∀ g ∈ r, g < M.moves.length
  ends : M.ends.length = M.moves.length
  mids : M.mids.length = M.moves.length
  mrows : ∀ r ∈ M.mids, r.length = M.k
abbrev Mach.Ok (M : Mach) : Prop := M.OkB 40
theorem Mach.OkB.mono {M : Mach} {a b : Nat} (ok : M.OkB a) (h : a ≤ b) : M.OkB b := ⟨ok.let_, ok.n1, Nat.le_trans ok.n40 h, ok.rows, ok.ends, ok.mids, ok.mrows⟩
/-- the machine M stands at v -/
def MAt (H : Hp) (v : V) (M : Mach) : Prop :=
  ∃ (a pm pe pq : Addr) (rs qs : List V), v = .ref a ∧ H a = some (.tup [.str M.letters, .ref pm, .ref pe, .ref pq]) ∧ H pm = some (.lst rs) ∧ Rows H rs (M.moves.map vI) ∧
    H pe = some (.lst (vB M.ends)) ∧ H pq = some (.lst qs) ∧ Rows H qs (M.mids.map vB)
theorem MAt.same {H H' : Hp} {v : V} {M : Mach} (s : Same H H') (h : MAt H v M) : MAt H' v M := by
  obtain ⟨a, pm, pe, pq, rs, qs, e, h1, h2, h3, h4, h5, h6⟩ := h
  exact ⟨a, pm, pe, pq, rs, qs, e, s _ _ h1, s _ _ h2, h3.same s, s _ _ h4, s _ _ h5, h6.same s⟩
/-! ### reading -/
def Mach.ix (M : Mach) (c : Nat) : Nat := M.L.idxOf c
def Mach.stp (M : Mach) (q : Nat) (p : Nat × Nat) : Nat := (M.moves.getD q []).getD (M.ix p.1 * M.k + M.ix p.2) 0
def Mach.run (M : Mach) (q : Nat) (ps : List (Nat × Nat)) : Nat := ps.foldl M.stp q
def Mach.bhd (M : Mach) (l r : List Nat) : Nat := M.run 0 (l.zip r.reverse)
def Mach.fin (M : Mach) (q : Nat) : Bool := M.ends.getD q false
def Mach.mid (M : Mach) (q c : Nat) : Bool := (M.mids.getD q []).getD (M.ix c) false
/-- what is told: by the halves -/
def Mach.has (M : Mach) (w : List Nat) : Bool :=
  let q := M.bhd (w.take (w.length / 2)) (w.drop (w.length - w.length / 2))
  if w.length % 2 = 0 then M.fin q else M.mid q (w.getD (w.length / 2) 0)
theorem Mach.ix_lt {M : Mach} {c : Nat} (h : c ∈ M.L) : M.ix c < M.k := by
  have := List.idxOf_lt_length_of_mem h
  simpa [Mach.k, Mach.ix] using this
theorem Mach.cell {M : Mach} {Bd : Nat} (ok : M.OkB Bd) {q a b : Nat} (hq : q < M.n) (ha : a ∈ M.L) (hb : b ∈ M.L) :
    ∃ r, M.moves[q]? = some r ∧ r[M.ix a * M.k + M.ix b]? = some (M.stp q (a, b)) ∧ M.stp q (a, b) < M.n := by
  have e : M.moves[q]? = some (M.moves[q]'hq) := List.getElem?_eq_getElem hq
  refine ⟨_, e, ?_⟩
  obtain ⟨hl, hg⟩ := ok.rows _ (List.getElem_mem hq)
  have h1 := M.ix_lt ha
  have h2 := M.ix_lt hb
  have hlt : M.ix a * M.k + M.ix b < (M.moves[q]'hq).length := by
    rw [hl]
    calc M.ix a * M.k + M.ix b < M.ix a * M.k + M.k := by omega
      _ = (M.ix a + 1) * M.k := by rw [Nat.succ_mul]
      _ ≤ M.k * M.k := Nat.mul_le_mul_right _ h1
  have e2 : M.stp q (a, b) = (M.moves[q]'hq)[M.ix a * M.k + M.ix b]'hlt := by
    have e0 : M.moves.getD q [] = M.moves[q]'hq := by rw [List.getD_eq_getElem?_getD, e, Option.getD_some]
    show (M.moves.getD q []).getD (M.ix a * M.k + M.ix b) 0 = _
    rw [e0, List.getD_eq_getElem?_getD, List.getElem?_eq_getElem hlt, Option.getD_some]
  rw [e2]
  exact ⟨List.getElem?_eq_getElem hlt, hg _ (List.getElem_mem hlt)⟩
theorem Mach.run_lt {M : Mach} {Bd : Nat} (ok : M.OkB Bd) : ∀ (ps : List (Nat × Nat)) (q : Nat), q < M.n → (∀ p ∈ ps, p.1 ∈ M.L ∧ p.2 ∈ M.L) → M.run q ps < M.n
  | [], q, hq, _ => hq
  | p :: r, q, hq, h => by
    show M.run (M.stp q p) r < M.n
    obtain ⟨_, _, _, hlt⟩ := Mach.cell ok hq (h p (List.mem_cons_self ..)).1 (h p (List.mem_cons_self ..)).2
    exact Mach.run_lt ok r _ hlt fun p' hp' => h p' (List.mem_cons_of_mem _ hp')
theorem Mach.bhd_lt {M : Mach} {Bd : Nat} (ok : M.OkB Bd) {l r : List Nat} (hl : ∀ c ∈ l, c ∈ M.L) (hr : ∀ c ∈ r, c ∈ M.L) : M.bhd l r < M.n :=
  Mach.run_lt ok _ _ ok.n1 fun p hp => by
    obtain ⟨h1, h2⟩ := List.of_mem_zip hp
    exact ⟨hl _ h1, hr _ (List.mem_reverse.mp h2)⟩
theorem Mach.fin_at {M : Mach} {Bd : Nat} (ok : M.OkB Bd) {q : Nat} (hq : q < M.n) : M.ends[q]? = some (M.fin q) := by
  have h : q < M.ends.length := by rw [ok.ends]; exact hq
  unfold Mach.fin
  rw [List.getD_eq_getElem?_getD, List.getElem?_eq_getElem h, Option.getD_some]
theorem Mach.mid_at {M : Mach} {Bd : Nat} (ok : M.OkB Bd) {q c : Nat} (hq : q < M.n) (hc : c ∈ M.L) : ∃ r, M.mids[q]? = some r ∧ r[M.ix c]? = some (M.mid q c) := by
  have h : q < M.mids.length := by rw [ok.mids]; exact hq
  refine ⟨_, List.getElem?_eq_getElem h, ?_⟩
  have hl := ok.mrows _ (List.getElem_mem h)
  have hx : M.ix c < (M.mids[q]'h).length := by rw [hl]; exact M.ix_lt hc
  have e0 : M.mids.getD q [] = M.mids[q]'h := by rw [List.getD_eq_getElem?_getD, List.getElem?_eq_getElem h, Option.getD_some]
  unfold Mach.mid
  rw [e0, List.getD_eq_getElem?_getD, List.getElem?_eq_getElem hx, Option.getD_some]
end Be

namespace Be
open PySem L2
def top (i : Nat) : Stmt := PySem.Challenge.pw_bothends_k11_whole_told_apart.main.body.getD i (.Pass ⟨0, 0, 0, 0⟩)
/-- what the built-ins' names are: not the module's -/
structure BI (mg : Str → Option Value) : Prop where
  isinstance : mg "isinstance" = none
  int : mg "int" = none
  bool : mg "bool" = none
  str : mg "str" = none
  list : mg "list" = none
  tuple : mg "tuple" = none
  len : mg "len" = none
  all : mg "all" = none
  zip : mg "zip" = none
  range : mg "range" = none
  max : mg "max" = none
  enumerate : mg "enumerate" = none
/-- the module's numbers -/
structure CO (mg : Str → Option Value) : Prop where
  ml : ∃ t, mg "MOST_LETTERS" = some (.int 3 t)
  ms : ∃ t, mg "MOST_STATES" = some (.int 40 t)
/-- a def of the top -/
structure Def (K : PySem.W.Frag) (mg : Str → Option Value) (x : Str) (st : Stmt) (ps : List Str) (f : Addr) (fd : FuncData) : Prop where
  F : Fun K x x st f fd
  b : Binds K fd ps []
  m : mg x = some (.ref f)
section
variable {P : Program} {w : World} {K : PySem.W.Frag} {mg : Str → Option Value} {base : Heap}
/-! ### is_number -/
def spIsNumber : Sp := fun vs H Q _ => ∃ i, vs = [.int i] ∧ Q (.bl true) H
theorem sc7 : FnScope ["value"] ["value"] (defScope (top 8)) := ⟨rfl, rfl, rfl, by decide +kernel, rfl, by decide +kernel, by decide +kernel⟩
theorem ok_isnumber {f : Addr} {fd : FuncData} (D : Def K mg "is_number" (top 8) ["value"] f fd) (T : BI mg) : FnOk P w K mg base CX0 1 f fd ["value"] spIsNumber := by
  refine D.F.ok sc7 (fun vs H Q E h => ?_) (fun cdv A outer s H vs Q E hr h => ?_)
  · obtain ⟨i, rfl, _⟩ := h; rfl
  · obtain ⟨i, rfl, k⟩ := h
    refine ⟨_, pss_one (ps_ret (pe_and (pe_callB call_isinst (by rfl) T.isinstance (by decide +kernel) (pa_cons (pv 0) (pa_cons (pe_bltn (v := .ty "int") (by rfl) T.int (by decide +kernel) rfl) pa_nil)))
      (pe_one (pe_not (pe_callB call_isinst (by rfl) T.isinstance (by decide +kernel) (pa_cons (pv 0) (pa_cons (pe_bltn (v := .ty "bool") (by rfl) T.bool (by decide +kernel) rfl) pa_nil))))))), ?_⟩
    exact ⟨_, rfl, _, _, _, _, rfl, TyOf.int _, rfl, _, rfl, iteT ⟨_, rfl, _, _, _, false, rfl, TyOf.int _, kit_int_bool, _, rfl, k⟩⟩
/-! ### is_list_of -/
def spIsListOf : Sp := fun vs H Q _ => ∃ a xs m, vs = [.ref a, .int m] ∧ H a = some (.lst xs) ∧ Q (.bl (decide ((xs.length : Int) = m))) H
theorem sc8 : FnScope ["value", "many"] ["value", "many"] (defScope (top 9)) := ⟨rfl, rfl, rfl, by decide +kernel, rfl, by decide +kernel, by decide +kernel⟩
theorem ok_islistof {f : Addr} {fd : FuncData} (D : Def K mg "is_list_of" (top 9) ["value", "many"] f fd) (T : BI mg) : FnOk P w K mg base CX0 1 f fd ["value", "many"] spIsListOf := by
  refine D.F.ok sc8 (fun vs H Q E h => ?_) (fun cdv A outer s H vs Q E hr h => ?_)
  · obtain ⟨a, xs, m, rfl, _⟩ := h; rfl
  · obtain ⟨a, xs, m, rfl, ha, k⟩ := h
    refine ⟨_, pss_one (ps_ret (pe_and (pe_callB call_isinst (by rfl) T.isinstance (by decide +kernel) (pa_cons (pv 0) (pa_cons (pe_bltn (v := .ty "list") (by rfl) T.list (by decide +kernel) rfl) pa_nil)))
      (pe_one (pe_cmp (pc_eqI (pe_callB call_len_seq (by rfl) T.len PySem.boot_len (pa_cons (pv 0) pa_nil)) (pv 1)) rfl)))), ?_⟩
    exact ⟨_, rfl, _, _, _, _, rfl, TyOf.lst ha, rfl, _, rfl, iteT ⟨_, rfl, _, _, rfl, .inl (SqL.of ha), _, rfl, _, _, rfl, rfl, k⟩⟩
/-! ### are_letters -/
def spAreLetters : Sp := fun vs H Q _ => ∃ x, vs = [.str x] ∧ LetOk x ∧ ∀ H', Same H H' → Q (.bl true) H'
theorem sc9 : FnScope ["value", "one", "other"] ["value"] (defScope (top 10)) := ⟨rfl, rfl, rfl, by decide +kernel, rfl, by decide +kernel, by decide +kernel⟩
theorem lt1 (c d : Nat) : decide (([c] : List Nat) < [d]) = decide (c < d) := by
  by_cases h : c < d
  · rw [decide_eq_true h]
    exact decide_eq_true (List.Lex.rel h)
  · rw [decide_eq_false h]
    refine decide_eq_false fun q => h ?_
    cases q with
    | rel h => exact h
    | cons h => cases h
theorem all_rep (n : Nat) : (List.replicate n true).all id = true := by simp
theorem rep_succ (n : Nat) : (List.replicate n true).map V.bl ++ [V.bl true] = (List.replicate (n + 1) true).map V.bl := by
  rw [List.replicate_succ']; simp
theorem ok_areletters {f : Addr} {fd : FuncData} (D : Def K mg "are_letters" (top 10) ["value"] f fd) (T : BI mg) (C : CO mg) : FnOk P w K mg base CX0 1 f fd ["value"] spAreLetters := by
  refine D.F.ok sc9 (fun vs H Q E h => ?_) (fun cdv A outer s H vs Q E hr h => ?_)
  · obtain ⟨x, rfl, _⟩ := h; rfl
  · obtain ⟨x, rfl, ok, k⟩ := h
    obtain ⟨tml, eml⟩ := C.ml
    refine ⟨_, pss_cons (ps_if (PW.pt (pw_or (pt_not (pt_val (pe_callB call_isinst (by rfl) T.isinstance (by decide +kernel) (pa_cons (pv 0) (pa_cons (pe_bltn (v := .ty "str") (by rfl) T.str (by decide +kernel) rfl) pa_nil)))))
        (pw_or1 (pt_not (pt_chain op_le op_le pe_int (pe_callB call_len_str (by rfl) T.len PySem.boot_len (pa_cons (pv 0) pa_nil)) (pe_glob (v := .int 3) (by rfl) eml ⟨_, rfl⟩)))))) (pss_one (ps_ret pe_bl)) pss_nil)
      (pss_cons (ps_if (PW.pt (pw_or (pt_cmpR op_lt_str (pe_ix ix_str (pv 0) pe_int (fun _ _ => rfl)) pe_str (nomark _))
        (pw_or1 (pt_cmpR op_gt_str (pe_ix ix_str (pv 0) (pe_un un_neg pe_int) (fun _ _ => rfl)) pe_str (nomark _))))) (pss_one (ps_ret pe_bl)) pss_nil)
      (pss_one (ps_ret (pe_callB (cr_all rfl) (by rfl) T.all (by decide +kernel) (pa_cons
        (pe_lc (own := [("one", 1), ("other", 2)]) (g := gTup _ 2 (gCons (gName 1) (gCons (gName 2) gNil))) (by rfl) sc9.nd
          (pi_zipS (by rfl) T.zip (pa_cons (pv 0) (pa_cons (pe_slice sl_str (pv 0) (po_some pe_int) po_none) pa_nil)))
          (blkOk_by (own := [("one", 1), ("other", 2)]) (N := ["value", "one", "other"]) (sc := defScope (top 10)) (by decide +kernel))
          (fun _ _ _ _ _ => pg_tup rfl (pgs_cons (pg_name (i := 1) sc9.nd rfl (Or.inl rfl)) (pgs_cons (pg_name (i := 2) sc9.nd rfl (Or.inl rfl)) pgs_nil)))
          (fun _ _ _ _ _ => pts_nil) (fun _ _ _ _ _ => pe_cmpR op_lt_str (pv 1) (pv 2) (nomark _))) pa_nil))))), ?_⟩
    have hz : x.length ≤ sizeLine := sz_le (by have := ok.k3; show x.cps.size ≤ _; omega)
    have k1 := ok.k1
    have k3 := ok.k3
    obtain ⟨c0, hc0⟩ : ∃ c, x.cps.toList[0]? = some c := ⟨_, List.getElem?_eq_getElem (by rw [Array.length_toList]; exact k1)⟩
    obtain ⟨l0, cl, hcl⟩ : ∃ l c, x.cps.toList = l ++ [c] := by
      have hne : x.cps.toList ≠ [] := by
        intro e
        have h0 : x.cps.toList.length = 0 := by rw [e]; rfl
        rw [Array.length_toList] at h0
        omega
      exact ⟨_, _, (List.dropLast_concat_getLast hne).symm⟩
    have m0 : c0 ∈ x.cps.toList := List.mem_of_getElem? hc0
    have ml : cl ∈ x.cps.toList := by rw [hcl]; simp
    -- not isinstance(value, str) or not 1 <= len(value) <= MOST_LETTERS
    refine ⟨_, rfl, _, _, _, _, rfl, TyOf.str _, rfl, _, rfl, iteF ?_⟩
    refine ⟨_, rfl, _, rfl, hz, _, _, rfl, rfl, _, rfl, iteD (by show (1 : Int) ≤ (x.cps.size : Int); omega) ⟨_, _, rfl, rfl, _, rfl, ?_⟩⟩
    have e3 : decide ((x.length : Int) ≤ 3) = true := decide_eq_true (by show ((x.cps.size : Nat) : Int) ≤ 3; omega)
    rw [e3]
    refine iteF ?_
    -- value[0] < 'a' or value[-1] > 'z'
    refine ⟨_, rfl, _, _, c0, rfl, rfl, hz, atI_nat (j := 0) hc0, _, _, rfl, rfl, _, rfl, ?_⟩
    have e4 : decide (([c0] : List Nat) < [97]) = false := by rw [lt1]; exact decide_eq_false (by have := ok.lo _ m0; omega)
    show if decide (([c0] : List Nat) < [97]) = true then _ else _
    rw [e4]
    refine iteF ?_
    refine ⟨_, rfl, _, rfl, _, _, cl, rfl, rfl, hz, by rw [hcl]; exact atI_last _ _, _, _, rfl, rfl, _, rfl, ?_⟩
    have e5 : decide (([122] : List Nat) < [cl]) = false := by rw [lt1]; exact decide_eq_false (by have := ok.hi _ ml; omega)
    show if decide (([122] : List Nat) < [cl]) = true then _ else _
    rw [e5]
    refine iteF ?_
    -- all([one < other for one, other in zip(value, value[1:])])
    have hy : (cutS x (some 1) none).cps.toList = x.cps.toList.drop 1 := by
      show (((x.cps.toList.drop (HT.sIx x.length 0 (some 1))).take (HT.sIx x.length x.length none - HT.sIx x.length 0 (some 1))).toArray).toList = _
      have e1 : HT.sIx x.length 0 (some ((1 : Nat) : Int)) = 1 := by rw [HT.sIx_nat]; show min 1 x.cps.size = 1; omega
      rw [show ((1 : Int)) = ((1 : Nat) : Int) from rfl, e1, HT.sIx_none, List.toList_toArray, List.take_of_length_le (by simp; show x.cps.size ≤ x.cps.size - 1 + 1; omega)]
    have hys : (cutS x (some 1) none).cps.size = x.cps.size - 1 := by
      have := congrArg List.length hy
      simpa using this
    refine ⟨_, rfl, _, rfl, _, rfl, x, rfl, hz, x, _, rfl, fun D hD => lc_it (n := x.cps.size - 1) (fun i H' => Same H H' ∧ H' D = some (.lst ((List.replicate i true).map V.bl)))
      ⟨Same.upd hD, upd_same⟩ (fun i H' hi _ => ⟨by omega, by rw [hys]; exact hi⟩) (fun H' _ => .inr ⟨by omega, by rw [hys]⟩) ?_ ?_⟩
    · rintro i v H1 H2 hi ⟨s1, hD1⟩ ⟨Tp, c, d, rfl, hT, rfl, hc, hd⟩
      refine ⟨Tp, _, rfl, SqT.of upd_same, rfl, _, _, rfl, _, _, rfl, rfl, rfl, ?_⟩
      refine yesT ?_
      refine ⟨_, rfl, _, rfl, _, _, rfl, rfl, (List.replicate i true).map V.bl, ?_, ?_, ?_⟩
      · rw [upd_ne (ne_of_none hD1 hT)]; exact hD1
      · simp; exact sz_lt (by omega)
      · have e : decide (([c] : List Nat) < [d]) = true := by
          rw [lt1]
          refine decide_eq_true (ok.up i c d hc ?_)
          have h2 : (cutS x (some 1) none).cps.toList[i]? = some d := by rw [Array.getElem?_toList]; exact hd
          rw [hy, List.getElem?_drop, Array.getElem?_toList, Nat.add_comm] at h2
          exact h2
        show Same H (upd _ D (.lst (_ ++ [V.bl (decide (([c] : List Nat) < [d]))]))) ∧ _
        rw [e, rep_succ]
        exact ⟨Same.put (s1.trans (Same.upd hT)) hD, upd_same⟩
    · rintro H' ⟨s1, hD1⟩
      refine ⟨D, _, rfl, SqL.of hD1, ?_⟩
      rw [all_rep]
      exact k H' s1
end
end Be

namespace Be
open PySem L2
section
variable {P : Program} {w : World} {K : PySem.W.Frag} {mg : Str → Option Value} {base : Heap}
/-- where a comprehension of truths stands after i turns -/
abbrev Tru (H : Hp) (D : Addr) (i : Nat) (H' : Hp) : Prop := Same H H' ∧ H' D = some (.lst ((List.replicate i true).map V.bl))
theorem Tru.next {H H1 : Hp} {D : Addr} {i : Nat} (hD : H D = none) (h : Tru H D i H1) (hi : i ≤ 10000) : ∃ acc, H1 D = some (.lst acc) ∧ acc.length < sizeLine ∧ Tru H D (i + 1) (upd H1 D (.lst (acc ++ [.bl true]))) :=
  ⟨_, h.2, by simp; exact sz_lt (by omega), by rw [rep_succ]; exact ⟨Same.put h.1 hD, upd_same⟩⟩
/-! ### is_state -/
def spIsState : Sp := fun vs H Q _ => ∃ g n, vs = [.int g, .int n] ∧ Q (.bl (decide (0 ≤ g ∧ g < n))) H
theorem scIS : FnScope ["value", "states"] ["value", "states"] (defScope (top 11)) := ⟨rfl, rfl, rfl, by decide +kernel, rfl, by decide +kernel, by decide +kernel⟩
theorem ok_isstate {f f7 : Addr} {fd fd7 : FuncData} (D : Def K mg "is_state" (top 11) ["value", "states"] f fd) (T : BI mg) (D7 : Def K mg "is_number" (top 8) ["value"] f7 fd7) :
    FnOk P w K mg base CX0 2 f fd ["value", "states"] spIsState := by
  have G7 : FnOk P w K mg base CX0 1 f7 fd7 ["value"] spIsNumber := ok_isnumber D7 T
  refine D.F.ok scIS (fun vs H Q E h => ?_) (fun cdv A outer s H vs Q E hr h => ?_)
  · obtain ⟨g, n, rfl, _⟩ := h; rfl
  · obtain ⟨g, n, rfl, k⟩ := h
    refine ⟨_, pss_one (ps_ret (pe_and (pe_call G7 hr (by rfl) D7.m D7.F.kp D7.b .nil pass0 (pa_cons (pv 0) pa_nil)) (pe_one (pe_chain op_le op_lt pe_int (pv 0) (pv 1))))), ?_⟩
    refine ⟨_, rfl, _, rfl, _, rfl, iteT ?_⟩
    refine ⟨_, rfl, _, _, rfl, rfl, _, rfl, ?_⟩
    by_cases h0 : (0 : Int) ≤ g
    · refine iteD h0 ⟨_, rfl, _, _, rfl, rfl, ?_⟩
      have e : decide (g < n) = decide (0 ≤ g ∧ g < n) := by simp [h0]
      dsimp only
      rw [e]; exact k
    · refine iteND h0 ?_
      have e : false = decide (0 ≤ g ∧ g < n) := by simp [h0]
      rw [e]; exact k
/-! ### are_states -/
def spAreStates : Sp := fun vs H Q _ => ∃ a r m n, vs = [.ref a, .int m, .int n] ∧ H a = some (.lst (vI r)) ∧ (r.length : Int) = m ∧ (∀ g ∈ r, (g : Int) < n) ∧ r.length ≤ 10000 ∧ ∀ H', Same H H' → Q (.bl true) H'
theorem sc10 : FnScope ["value", "many", "states", "goal"] ["value", "many", "states"] (defScope (top 12)) := ⟨rfl, rfl, rfl, by decide +kernel, rfl, by decide +kernel, by decide +kernel⟩
theorem ok_arestates {f f7 f8 : Addr} {fd fd7 fd8 : FuncData} (D : Def K mg "are_states" (top 12) ["value", "many", "states"] f fd) (T : BI mg) (D7 : Def K mg "is_state" (top 11) ["value", "states"] f7 fd7) (G7 : FnOk P w K mg base CX0 2 f7 fd7 ["value", "states"] spIsState) (D8 : Def K mg "is_list_of" (top 9) ["value", "many"] f8 fd8) :
    FnOk P w K mg base CX0 3 f fd ["value", "many", "states"] spAreStates := by
  have G8 : FnOk P w K mg base CX0 1 f8 fd8 ["value", "many"] spIsListOf := ok_islistof D8 T
  refine D.F.ok sc10 (fun vs H Q E h => ?_) (fun cdv A outer s H vs Q E hr h => ?_)
  · obtain ⟨a, r, m, n, rfl, _⟩ := h; rfl
  · obtain ⟨a, r, m, n, rfl, ha, hm, hn, hl, k⟩ := h
    refine ⟨_, pss_one (ps_ret (pe_and (pe_call G8 (hr.mono (by decide)) (by rfl) D8.m D8.F.kp D8.b .nil pass0 (pa_cons (pv 0) (pa_cons (pv 1) pa_nil)))
      (pe_one (pe_callB (cr_all rfl) (by rfl) T.all (by decide +kernel) (pa_cons
        (pe_lc (own := [("goal", 3)]) (g := gName 3) (by rfl) sc10.nd (pi_list (pv 0))
          (blkOk_by (own := [("goal", 3)]) (N := ["value", "many", "states", "goal"]) (sc := defScope (top 12)) (by decide +kernel))
          (fun _ _ _ _ _ => pg_name (i := 3) sc10.nd rfl (Or.inl rfl)) (fun _ _ _ _ _ => pts_nil)
          (fun _ _ _ _ _ => pe_call G7 hr (by rfl) D7.m D7.F.kp D7.b .nil pass0 (pa_cons (pv 3) (pa_cons (pv 2) pa_nil)))) pa_nil))))), ?_⟩
    refine ⟨_, rfl, _, rfl, a, _, m, rfl, ha, _, rfl, iteD (by rw [List.length_map]; exact hm) ?_⟩
    refine ⟨_, rfl, a, rfl, ⟨_, SqL.of ha⟩, fun Dn hD => lc_list (K := K) (a := a) (xs := vI r) (fun i H' => Tru H Dn i H')
      ⟨Same.upd hD, upd_same⟩ (fun i H' _ h => SqL.of (h.1 _ _ ha)) ?_ ?_⟩
    · rintro i v H1 hv h1
      have hi : i < r.length := by have := (List.getElem?_eq_some_iff.mp hv).1; simpa using this
      rw [List.getElem?_map, List.getElem?_eq_getElem hi] at hv
      cases Option.some.inj hv
      refine ⟨rfl, yesT ?_⟩
      refine ⟨_, rfl, _, rfl, _, _, rfl, ?_⟩
      have hg := hn _ (List.getElem_mem hi)
      rw [decide_eq_true (show (0 : Int) ≤ ((r[i] : Nat) : Int) ∧ ((r[i] : Nat) : Int) < n from ⟨by omega, hg⟩)]
      exact Tru.next hD h1 (by omega)
    · rintro H' ⟨s1, hD1⟩
      refine ⟨Dn, _, rfl, SqL.of hD1, ?_⟩
      rw [all_rep]
      exact k H' s1
/-! ### are_truths -/
def spAreTruths : Sp := fun vs H Q _ => ∃ a r m, vs = [.ref a, .int m] ∧ H a = some (.lst (vB r)) ∧ (r.length : Int) = m ∧ r.length ≤ 10000 ∧ ∀ H', Same H H' → Q (.bl true) H'
theorem sc11 : FnScope ["value", "many", "truth"] ["value", "many"] (defScope (top 13)) := ⟨rfl, rfl, rfl, by decide +kernel, rfl, by decide +kernel, by decide +kernel⟩
theorem ok_aretruths {f f8 : Addr} {fd fd8 : FuncData} (D : Def K mg "are_truths" (top 13) ["value", "many"] f fd) (T : BI mg) (D8 : Def K mg "is_list_of" (top 9) ["value", "many"] f8 fd8) :
    FnOk P w K mg base CX0 2 f fd ["value", "many"] spAreTruths := by
  have G8 : FnOk P w K mg base CX0 1 f8 fd8 ["value", "many"] spIsListOf := ok_islistof D8 T
  refine D.F.ok sc11 (fun vs H Q E h => ?_) (fun cdv A outer s H vs Q E hr h => ?_)
  · obtain ⟨a, r, m, rfl, _⟩ := h; rfl
  · obtain ⟨a, r, m, rfl, ha, hm, hl, k⟩ := h
    refine ⟨_, pss_one (ps_ret (pe_and (pe_call G8 hr (by rfl) D8.m D8.F.kp D8.b .nil pass0 (pa_cons (pv 0) (pa_cons (pv 1) pa_nil)))
      (pe_one (pe_callB (cr_all rfl) (by rfl) T.all (by decide +kernel) (pa_cons
        (pe_lc (own := [("truth", 2)]) (g := gName 2) (by rfl) sc11.nd (pi_list (pv 0))
          (blkOk_by (own := [("truth", 2)]) (N := ["value", "many", "truth"]) (sc := defScope (top 13)) (by decide +kernel))
          (fun _ _ _ _ _ => pg_name (i := 2) sc11.nd rfl (Or.inl rfl)) (fun _ _ _ _ _ => pts_nil)
          (fun _ _ _ _ _ => pe_callB (call_isinstK K) (by rfl) T.isinstance (by decide +kernel) (pa_cons (pv 2) (pa_cons (pe_bltn (v := .ty "bool") (by rfl) T.bool (by decide +kernel) rfl) pa_nil)))) pa_nil))))), ?_⟩
    refine ⟨_, rfl, _, rfl, a, _, m, rfl, ha, _, rfl, iteD (by rw [List.length_map]; exact hm) ?_⟩
    refine ⟨_, rfl, a, rfl, ⟨_, SqL.of ha⟩, fun Dn hD => lc_list (K := K) (a := a) (xs := vB r) (fun i H' => Tru H Dn i H')
      ⟨Same.upd hD, upd_same⟩ (fun i H' _ h => SqL.of (h.1 _ _ ha)) ?_ ?_⟩
    · rintro i v H1 hv h1
      have hi : i < r.length := by have := (List.getElem?_eq_some_iff.mp hv).1; simpa using this
      rw [List.getElem?_map, List.getElem?_eq_getElem hi] at hv
      cases Option.some.inj hv
      refine ⟨rfl, yesT ?_⟩
      refine ⟨_, rfl, _, _, _, true, rfl, TyOf.bl _, rfl, ?_⟩
      exact Tru.next hD h1 (by omega)
    · rintro H' ⟨s1, hD1⟩
      refine ⟨Dn, _, rfl, SqL.of hD1, ?_⟩
      rw [all_rep]
      exact k H' s1
/-! ### are_moves -/
def spAreMoves : Sp := fun vs H Q _ => ∃ (a : Addr) (rs : List V) (mv : List (List Nat)) (p : Int) (m : Nat), vs = [.ref a, .int p, .int m] ∧ H a = some (.lst rs) ∧ Rows H rs (mv.map vI) ∧ 1 ≤ mv.length ∧ mv.length ≤ m ∧ m ≤ 40 ∧ (∀ r ∈ mv, (r.length : Int) = p ∧ r.length ≤ 10000 ∧ ∀ g ∈ r, g < mv.length) ∧ ∀ H', Same H H' → Q (.bl true) H'
theorem sc12 : FnScope ["value", "many", "most", "row"] ["value", "many", "most"] (defScope (top 14)) := ⟨rfl, rfl, rfl, by decide +kernel, rfl, by decide +kernel, by decide +kernel⟩
theorem ok_aremoves {f f10 : Addr} {fd fd10 : FuncData} (D : Def K mg "are_moves" (top 14) ["value", "many", "most"] f fd) (T : BI mg) (D10 : Def K mg "are_states" (top 12) ["value", "many", "states"] f10 fd10)
    (G10 : FnOk P w K mg base CX0 3 f10 fd10 ["value", "many", "states"] spAreStates) : FnOk P w K mg base CX0 4 f fd ["value", "many", "most"] spAreMoves := by
  refine D.F.ok sc12 (fun vs H Q E h => ?_) (fun cdv A outer s H vs Q E hr h => ?_)
  · obtain ⟨a, rs, mv, p, m, rfl, _⟩ := h; rfl
  · obtain ⟨a, rs, mv, p, m, rfl, ha, hR, h1, hm, h40, hrow, k⟩ := h
    have hl : rs.length = mv.length := by rw [hR.len, List.length_map]
    refine ⟨_, pss_cons (ps_if (PW.pt (pw_or (pt_not (pt_val (pe_callB call_isinst (by rfl) T.isinstance (by decide +kernel) (pa_cons (pv 0) (pa_cons (pe_bltn (v := .ty "list") (by rfl) T.list (by decide +kernel) rfl) pa_nil)))))
        (pw_or1 (pt_not (pt_chain op_le op_le pe_int (pe_callB call_len_seq (by rfl) T.len PySem.boot_len (pa_cons (pv 0) pa_nil)) (pv 2)))))) (pss_one (ps_ret pe_bl)) pss_nil)
      (pss_one (ps_ret (pe_callB (cr_all rfl) (by rfl) T.all (by decide +kernel) (pa_cons
        (pe_lc (own := [("row", 3)]) (g := gName 3) (by rfl) sc12.nd (pi_list (pv 0))
          (blkOk_by (own := [("row", 3)]) (N := ["value", "many", "most", "row"]) (sc := defScope (top 14)) (by decide +kernel))
          (fun _ _ _ _ _ => pg_name (i := 3) sc12.nd rfl (Or.inl rfl)) (fun _ _ _ _ _ => pts_nil)
          (fun _ _ _ _ _ => pe_call G10 (hr.mono (by decide)) (by rfl) D10.m D10.F.kp D10.b .nil pass0 (pa_cons (pv 3) (pa_cons (pv 1) (pa_cons (pe_callB (call_lenK K) (by rfl) T.len PySem.boot_len (pa_cons (pv 0) pa_nil)) pa_nil))))) pa_nil)))), ?_⟩
    refine ⟨_, rfl, _, _, _, _, rfl, TyOf.lst ha, rfl, _, rfl, iteF ?_⟩
    refine ⟨_, rfl, _, _, rfl, .inl (SqL.of ha), _, _, rfl, rfl, _, rfl, iteD (by omega) ⟨_, rfl, _, _, rfl, rfl, _, rfl, ?_⟩⟩
    rw [decide_eq_true (show (rs.length : Int) ≤ (m : Int) by omega)]
    refine iteF ?_
    refine ⟨_, rfl, a, rfl, ⟨_, SqL.of ha⟩, fun Dn hD => lc_list (K := K) (a := a) (xs := rs) (fun i H' => Tru H Dn i H')
      ⟨Same.upd hD, upd_same⟩ (fun i H' _ h => SqL.of (h.1 _ _ ha)) ?_ ?_⟩
    · rintro i v H1 hv h1'
      have hi : i < rs.length := (List.getElem?_eq_some_iff.mp hv).1
      obtain ⟨q, xs, rfl, hx, hq⟩ := hR.to hv
      have hi' : i < mv.length := by omega
      rw [List.getElem?_map, List.getElem?_eq_getElem hi'] at hx
      cases Option.some.inj hx
      obtain ⟨e1, e2, e3⟩ := hrow _ (List.getElem_mem hi')
      refine ⟨rfl, yesT ?_⟩
      refine ⟨_, rfl, _, rfl, _, rfl, _, _, rfl, .inl (SqL.of (h1'.1 _ _ ha)), q, _, _, _, rfl, h1'.1 _ _ hq, e1, fun g hg => by have := e3 g hg; omega, e2, fun H2 s2 => ?_⟩
      exact Tru.next (hD) ⟨h1'.1.trans s2, s2 _ _ h1'.2⟩ (by omega)
    · rintro H' ⟨s1, hD1⟩
      refine ⟨Dn, _, rfl, SqL.of hD1, ?_⟩
      rw [all_rep]
      exact k H' s1
/-! ### are_middles -/
def spAreMiddles : Sp := fun vs H Q _ => ∃ (a : Addr) (qs : List V) (md : List (List Bool)) (n m : Int), vs = [.ref a, .int n, .int m] ∧ H a = some (.lst qs) ∧ Rows H qs (md.map vB) ∧ (md.length : Int) = n ∧ md.length ≤ 40 ∧ (∀ r ∈ md, (r.length : Int) = m ∧ r.length ≤ 10000) ∧ ∀ H', Same H H' → Q (.bl true) H'
theorem sc13 : FnScope ["value", "states", "many", "row"] ["value", "states", "many"] (defScope (top 15)) := ⟨rfl, rfl, rfl, by decide +kernel, rfl, by decide +kernel, by decide +kernel⟩
theorem ok_aremiddles {f f8 f11 : Addr} {fd fd8 fd11 : FuncData} (D : Def K mg "are_middles" (top 15) ["value", "states", "many"] f fd) (T : BI mg) (D8 : Def K mg "is_list_of" (top 9) ["value", "many"] f8 fd8)
    (D11 : Def K mg "are_truths" (top 13) ["value", "many"] f11 fd11) : FnOk P w K mg base CX0 3 f fd ["value", "states", "many"] spAreMiddles := by
  have G8 : FnOk P w K mg base CX0 1 f8 fd8 ["value", "many"] spIsListOf := ok_islistof D8 T
  have G11 : FnOk P w K mg base CX0 2 f11 fd11 ["value", "many"] spAreTruths := ok_aretruths D11 T D8
  refine D.F.ok sc13 (fun vs H Q E h => ?_) (fun cdv A outer s H vs Q E hr h => ?_)
  · obtain ⟨a, qs, md, n, m, rfl, _⟩ := h; rfl
  · obtain ⟨a, qs, md, n, m, rfl, ha, hR, hn, h40, hrow, k⟩ := h
    have hl : qs.length = md.length := by rw [hR.len, List.length_map]
    refine ⟨_, pss_one (ps_ret (pe_and (pe_call G8 (hr.mono (by decide)) (by rfl) D8.m D8.F.kp D8.b .nil pass0 (pa_cons (pv 0) (pa_cons (pv 1) pa_nil)))
      (pe_one (pe_callB (cr_all rfl) (by rfl) T.all (by decide +kernel) (pa_cons
        (pe_lc (own := [("row", 3)]) (g := gName 3) (by rfl) sc13.nd (pi_list (pv 0))
          (blkOk_by (own := [("row", 3)]) (N := ["value", "states", "many", "row"]) (sc := defScope (top 15)) (by decide +kernel))
          (fun _ _ _ _ _ => pg_name (i := 3) sc13.nd rfl (Or.inl rfl)) (fun _ _ _ _ _ => pts_nil)
          (fun _ _ _ _ _ => pe_call G11 (hr.mono (by decide)) (by rfl) D11.m D11.F.kp D11.b .nil pass0 (pa_cons (pv 3) (pa_cons (pv 2) pa_nil)))) pa_nil))))), ?_⟩
    refine ⟨_, rfl, _, rfl, a, _, n, rfl, ha, _, rfl, iteD (by omega) ?_⟩
    refine ⟨_, rfl, a, rfl, ⟨_, SqL.of ha⟩, fun Dn hD => lc_list (K := K) (a := a) (xs := qs) (fun i H' => Tru H Dn i H')
      ⟨Same.upd hD, upd_same⟩ (fun i H' _ h => SqL.of (h.1 _ _ ha)) ?_ ?_⟩
    · rintro i v H1 hv h1'
      have hi : i < qs.length := (List.getElem?_eq_some_iff.mp hv).1
      obtain ⟨q, xs, rfl, hx, hq⟩ := hR.to hv
      have hi' : i < md.length := by omega
      rw [List.getElem?_map, List.getElem?_eq_getElem hi'] at hx
      cases Option.some.inj hx
      obtain ⟨e1, e2⟩ := hrow _ (List.getElem_mem hi')
      refine ⟨rfl, yesT ?_⟩
      refine ⟨_, rfl, _, rfl, q, _, _, rfl, h1'.1 _ _ hq, e1, e2, fun H2 s2 => ?_⟩
      exact Tru.next hD ⟨h1'.1.trans s2, s2 _ _ h1'.2⟩ (by omega)
    · rintro H' ⟨s1, hD1⟩
      refine ⟨Dn, _, rfl, SqL.of hD1, ?_⟩
      rw [all_rep]
      exact k H' s1
/-! ### is_machine, check_machine -/
def spIsMachine : Sp := fun vs H Q _ => ∃ v M, vs = [v] ∧ MAt H v M ∧ M.Ok ∧ ∀ H', Same H H' → Q (.bl true) H'
theorem sc14 : FnScope ["value", "letters", "moves", "ends", "middles", "many"] ["value"] (defScope (top 16)) := ⟨rfl, rfl, rfl, by decide +kernel, rfl, by decide +kernel, by decide +kernel⟩
theorem ok_ismachine {f f9 f12 f11 f13 : Addr} {fd fd9 fd12 fd11 fd13 : FuncData} (D : Def K mg "is_machine" (top 16) ["value"] f fd) (T : BI mg) (C : CO mg)
    (D9 : Def K mg "are_letters" (top 10) ["value"] f9 fd9) (G9 : FnOk P w K mg base CX0 1 f9 fd9 ["value"] spAreLetters)
    (D12 : Def K mg "are_moves" (top 14) ["value", "many", "most"] f12 fd12) (G12 : FnOk P w K mg base CX0 4 f12 fd12 ["value", "many", "most"] spAreMoves)
    (D11 : Def K mg "are_truths" (top 13) ["value", "many"] f11 fd11) (G11 : FnOk P w K mg base CX0 2 f11 fd11 ["value", "many"] spAreTruths)
    (D13 : Def K mg "are_middles" (top 15) ["value", "states", "many"] f13 fd13) (G13 : FnOk P w K mg base CX0 3 f13 fd13 ["value", "states", "many"] spAreMiddles) : FnOk P w K mg base CX0 5 f fd ["value"] spIsMachine := by
  refine D.F.ok sc14 (fun vs H Q E h => ?_) (fun cdv A outer s H vs Q E hr h => ?_)
  · obtain ⟨v, M, rfl, _⟩ := h; rfl
  · obtain ⟨v, M, rfl, ⟨a, pm, pe, pq, rs, qs, rfl, h1, h2, h3, h4, h5, h6⟩, ok, k⟩ := h
    obtain ⟨tms, ems⟩ := C.ms
    refine ⟨_, pss_cons (ps_if (PW.pt (pw_or (pt_not (pt_val (pe_callB call_isinst (by rfl) T.isinstance (by decide +kernel) (pa_cons (pv 0) (pa_cons (pe_bltn (v := .ty "tuple") (by rfl) T.tuple (by decide +kernel) rfl) pa_nil)))))
        (pw_or1 (pt_cmp (pc_neI (pe_callB call_len_seq (by rfl) T.len PySem.boot_len (pa_cons (pv 0) pa_nil)) pe_int))))) (pss_one (ps_ret pe_bl)) pss_nil)
      (pss_cons (ps_asg (pv 0) (pg_tup (by rfl) (pgs_cons (pg_name (i := 1) sc14.nd rfl (Or.inl rfl)) (pgs_cons (pg_name (i := 2) sc14.nd rfl (Or.inl rfl)) (pgs_cons (pg_name (i := 3) sc14.nd rfl (Or.inl rfl)) (pgs_cons (pg_name (i := 4) sc14.nd rfl (Or.inl rfl)) pgs_nil))))))
      (pss_cons (ps_if (pt_not (pt_val (pe_call G9 (hr.mono (by decide)) (by rfl) D9.m D9.F.kp D9.b .nil pass0 (pa_cons (pv 1) pa_nil)))) (pss_one (ps_ret pe_bl)) pss_nil)
      (pss_cons (ps_set (i := 5) sc14.nd rfl (Or.inl rfl) (pe_callB call_len_str (by rfl) T.len PySem.boot_len (pa_cons (pv 1) pa_nil)))
      (pss_cons (ps_if (pt_not (pt_val (pe_call G12 (hr.mono (by decide)) (by rfl) D12.m D12.F.kp D12.b .nil pass0 (pa_cons (pv 2) (pa_cons (pe_op op_mul (pv 5) (pv 5)) (pa_cons (pe_glob (v := .int 40) (by rfl) ems ⟨_, rfl⟩) pa_nil)))))) (pss_one (ps_ret pe_bl)) pss_nil)
      (pss_one (ps_ret (pe_and (pe_call G11 (hr.mono (by decide)) (by rfl) D11.m D11.F.kp D11.b .nil pass0 (pa_cons (pv 3) (pa_cons (pe_callB call_len_seq (by rfl) T.len PySem.boot_len (pa_cons (pv 2) pa_nil)) pa_nil)))
        (pe_one (pe_call G13 (hr.mono (by decide)) (by rfl) D13.m D13.F.kp D13.b .nil pass0 (pa_cons (pv 4) (pa_cons (pe_callB call_len_seq (by rfl) T.len PySem.boot_len (pa_cons (pv 2) pa_nil)) (pa_cons (pv 5) pa_nil)))))))))))), ?_⟩
    have hk3 : M.k ≤ 3 := ok.let_.k3
    have hz : M.letters.length ≤ sizeLine := sz_le (by show M.k ≤ _; omega)
    have hrl : rs.length = M.moves.length := by rw [h3.len, List.length_map]
    have h40 := ok.n40
    have hn1 := ok.n1
    refine ⟨_, rfl, _, _, _, _, rfl, TyOf.tup h1, rfl, _, rfl, iteF ?_⟩
    refine ⟨_, rfl, _, _, rfl, .inr (SqT.of h1), _, _, rfl, rfl, _, rfl, ?_⟩
    refine iteF ?_
    refine ⟨_, rfl, a, _, rfl, SqT.of h1, rfl, _, _, rfl, _, _, rfl, _, _, rfl, _, _, rfl, rfl, ?_⟩
    refine ⟨_, rfl, _, rfl, ok.let_, fun H1 s1 => ⟨_, rfl, iteF ?_⟩⟩
    refine ⟨_, rfl, _, rfl, hz, ?_⟩
    have kk : ((M.letters.length : Nat) : Int) = (M.k : Int) := rfl
    have hk9 : M.k * M.k ≤ 9 := Nat.mul_le_mul hk3 hk3
    refine ⟨_, rfl, _, rfl, _, rfl, _, _, rfl, rfl, .inl ⟨by rw [kk]; omega, by rw [kk]; omega⟩, pm, rs, M.moves, _, 40, rfl, s1 _ _ h2, h3.same s1, hn1, h40, Nat.le_refl _, fun r hr' => ?_, fun H2 s2 => ⟨_, rfl, iteF ?_⟩⟩
    · obtain ⟨e1, e2⟩ := ok.rows r hr'
      refine ⟨?_, by omega, e2⟩
      rw [e1, kk]
      first | done | simp
    have s12 := s1.trans s2
    refine ⟨_, rfl, _, rfl, _, _, rfl, .inl (SqL.of (s12 _ _ h2)), pe, M.ends, _, rfl, s12 _ _ h4, by rw [ok.ends]; omega, by rw [ok.ends]; omega, fun H3 s3 => ⟨_, rfl, iteT ?_⟩⟩
    have s13 := s12.trans s3
    refine ⟨_, rfl, _, rfl, _, _, rfl, .inl (SqL.of (s13 _ _ h2)), _, rfl, pq, qs, M.mids, _, _, rfl, s13 _ _ h5, h6.same s13, by rw [ok.mids]; omega, by rw [ok.mids]; omega, fun r hr' => ?_, fun H4 s4 => k H4 (s13.trans s4)⟩
    have e1 := ok.mrows r hr'
    exact ⟨by rw [e1]; rfl, by omega⟩
def spCheckMachine : Sp := fun vs H Q _ => ∃ v M, vs = [v] ∧ MAt H v M ∧ M.Ok ∧ ∀ H', Same H H' → Q .non H'
theorem sc15 : FnScope ["machine"] ["machine"] (defScope (top 18)) := ⟨rfl, rfl, rfl, by decide +kernel, rfl, by decide +kernel, by decide +kernel⟩
theorem ok_checkmachine {f f14 : Addr} {fd fd14 : FuncData} (D : Def K mg "check_machine" (top 18) ["machine"] f fd) (D14 : Def K mg "is_machine" (top 16) ["value"] f14 fd14) (G14 : FnOk P w K mg base CX0 5 f14 fd14 ["value"] spIsMachine) :
    FnOk P w K mg base CX0 6 f fd ["machine"] spCheckMachine := by
  refine D.F.ok sc15 (fun vs H Q E h => ?_) (fun cdv A outer s H vs Q E hr h => ?_)
  · obtain ⟨v, M, rfl, _⟩ := h; rfl
  · obtain ⟨v, M, rfl, hM, ok, k⟩ := h
    refine ⟨_, pss_one (ps_if (pt_not (pt_val (pe_call G14 (hr.mono (by decide)) (by rfl) D14.m D14.F.kp D14.b .nil pass0 (pa_cons (pv 0) pa_nil)))) pss_never pss_nil), ?_⟩
    exact ⟨_, rfl, _, M, rfl, hM, ok, fun H1 s1 => ⟨_, rfl, iteF (k H1 s1)⟩⟩
end
end Be

namespace Be
open PySem L2
/-! ### slices of texts -/
theorem cut_take (x : Str) (h : Nat) : (cutS x none (some (h : Int))).cps.toList = x.cps.toList.take h := by
  show (((x.cps.toList.drop (HT.sIx x.length 0 none)).take (HT.sIx x.length x.length (some (h : Int)) - HT.sIx x.length 0 none)).toArray).toList = _
  rw [HT.sIx_none, HT.sIx_nat, List.toList_toArray, List.drop_zero, Nat.sub_zero]
  have e : x.length = x.cps.toList.length := by simp; rfl
  rw [e]
  by_cases hh : h ≤ x.cps.toList.length
  · rw [Nat.min_eq_left hh]
  · rw [Nat.min_eq_right (by omega), List.take_of_length_le (Nat.le_refl _), List.take_of_length_le (by omega)]
theorem cut_drop (x : Str) (k : Nat) : (cutS x (some (k : Int)) none).cps.toList = x.cps.toList.drop k := by
  show (((x.cps.toList.drop (HT.sIx x.length 0 (some (k : Int)))).take (HT.sIx x.length x.length none - HT.sIx x.length 0 (some (k : Int)))).toArray).toList = _
  rw [HT.sIx_none, HT.sIx_nat, List.toList_toArray]
  have e : x.length = x.cps.toList.length := by simp; rfl
  rw [e]
  by_cases hh : k ≤ x.cps.toList.length
  · rw [Nat.min_eq_left hh, List.take_of_length_le (by simp)]
  · rw [Nat.min_eq_right (by omega), List.drop_of_length_le (Nat.le_refl _), List.drop_of_length_le (by omega)]; simp
theorem rev_list (x : Str) : (revS x).cps.toList = x.cps.toList.reverse := by show (x.cps.toList.reverse.toArray).toList = _; rw [List.toList_toArray]
abbrev Over (L x : Str) : Prop := ∀ c ∈ x.cps.toList, c ∈ L.cps.toList
section
variable {P : Program} {w : World} {K : PySem.W.Frag} {mg : Str → Option Value} {base : Heap}
/-! ### is_text_of -/
def spIsTextOf : Sp := fun vs H Q _ => ∃ (L x : Str), vs = [.str L, .str x] ∧ x.cps.size ≤ 10000 ∧ Over L x ∧ ∀ H', Same H H' → Q (.bl true) H'
theorem scTO : FnScope ["letters", "value", "letter"] ["letters", "value"] (defScope (top 17)) := ⟨rfl, rfl, rfl, by decide +kernel, rfl, by decide +kernel, by decide +kernel⟩
theorem ok_istextof {f : Addr} {fd : FuncData} (D : Def K mg "is_text_of" (top 17) ["letters", "value"] f fd) (T : BI mg) : FnOk P w K mg base CX0 1 f fd ["letters", "value"] spIsTextOf := by
  refine D.F.ok scTO (fun vs H Q E h => ?_) (fun cdv A outer s H vs Q E hr h => ?_)
  · obtain ⟨L, x, rfl, _⟩ := h; rfl
  · obtain ⟨L, x, rfl, hs, ho, k⟩ := h
    refine ⟨_, pss_one (ps_ret (pe_and (pe_callB call_isinst (by rfl) T.isinstance (by decide +kernel) (pa_cons (pv 1) (pa_cons (pe_bltn (v := .ty "str") (by rfl) T.str (by decide +kernel) rfl) pa_nil)))
      (pe_one (pe_callB (cr_all rfl) (by rfl) T.all (by decide +kernel) (pa_cons
        (pe_lc (own := [("letter", 2)]) (g := gName 2) (by rfl) scTO.nd (pi_str (pv 1))
          (blkOk_by (own := [("letter", 2)]) (N := ["letters", "value", "letter"]) (sc := defScope (top 17)) (by decide +kernel))
          (fun _ _ _ _ _ => pg_name (i := 2) scTO.nd rfl (Or.inl rfl)) (fun _ _ _ _ _ => pts_nil)
          (fun _ _ _ _ _ => pe_cmpR op_in_sign (pv 2) (pv 0) (by rfl))) pa_nil))))), ?_⟩
    refine ⟨_, rfl, _, _, _, _, rfl, TyOf.str _, rfl, _, rfl, iteT ?_⟩
    refine ⟨_, rfl, x, rfl, fun Dn hD => lc_it (n := x.cps.size) (fun i H' => Tru H Dn i H')
      ⟨Same.upd hD, upd_same⟩ (fun i H' hi _ => hi) (fun H' _ => Nat.le_refl _) ?_ ?_⟩
    · rintro i v H1 H2 hi h1 ⟨rfl, c, hc, rfl⟩
      refine ⟨rfl, yesT ?_⟩
      refine ⟨_, rfl, _, rfl, c, L, rfl, rfl, ?_⟩
      dsimp only
      rw [decide_eq_true (ho c (by rw [← Array.getElem?_toList] at hc; exact List.mem_of_getElem? hc))]
      exact Tru.next hD h1 (by omega)
    · rintro H' ⟨s1, hD1⟩
      refine ⟨Dn, _, rfl, SqL.of hD1, ?_⟩
      rw [all_rep]
      exact k H' s1
/-! ### check_word -/
def spCheckWord : Sp := fun vs H Q _ => ∃ (L x : Str) (m : Int), vs = [.str L, .str x, .int m] ∧ (x.cps.size : Int) ≤ m ∧ x.cps.size ≤ 10000 ∧ Over L x ∧ ∀ H', Same H H' → Q .non H'
theorem sc16 : FnScope ["letters", "word", "most"] ["letters", "word", "most"] (defScope (top 19)) := ⟨rfl, rfl, rfl, by decide +kernel, rfl, by decide +kernel, by decide +kernel⟩
theorem ok_checkword {f fto : Addr} {fd fdto : FuncData} (D : Def K mg "check_word" (top 19) ["letters", "word", "most"] f fd) (T : BI mg) (Dto : Def K mg "is_text_of" (top 17) ["letters", "value"] fto fdto) : FnOk P w K mg base CX0 2 f fd ["letters", "word", "most"] spCheckWord := by
  have Gto : FnOk P w K mg base CX0 1 fto fdto ["letters", "value"] spIsTextOf := ok_istextof Dto T
  refine D.F.ok sc16 (fun vs H Q E h => ?_) (fun cdv A outer s H vs Q E hr h => ?_)
  · obtain ⟨L, x, m, rfl, _⟩ := h; rfl
  · obtain ⟨L, x, m, rfl, hm, hs, ho, k⟩ := h
    refine ⟨_, pss_one (ps_if (PW.pt (pw_or (pt_not (pt_val (pe_callB call_isinst (by rfl) T.isinstance (by decide +kernel) (pa_cons (pv 1) (pa_cons (pe_bltn (v := .ty "str") (by rfl) T.str (by decide +kernel) rfl) pa_nil)))))
      (pw_or (pt_cmp (pc_gt (pe_callB call_len_str (by rfl) T.len PySem.boot_len (pa_cons (pv 1) pa_nil)) (pv 2)))
      (pw_or1 (pt_not (pt_val (pe_call Gto hr (by rfl) Dto.m Dto.F.kp Dto.b .nil pass0 (pa_cons (pv 0) (pa_cons (pv 1) pa_nil))))))))) pss_never pss_nil), ?_⟩
    have hz : x.length ≤ sizeLine := sz_le (by show x.cps.size ≤ _; omega)
    refine ⟨_, rfl, _, _, _, _, rfl, TyOf.str _, rfl, _, rfl, iteF ?_⟩
    refine ⟨_, rfl, _, rfl, hz, _, rfl, _, _, rfl, rfl, _, rfl, ?_⟩
    refine iteND (show ¬ (m < ((x.length : Nat) : Int)) by show ¬ (m < ((x.cps.size : Nat) : Int)); omega) ?_
    exact ⟨_, rfl, _, rfl, _, _, rfl, hs, ho, fun H1 s1 => ⟨_, rfl, iteF (k H1 s1)⟩⟩
def spCheckTwo : Sp := fun vs H Q _ => ∃ (L x y : Str) (m : Int), vs = [.str L, .str x, .str y, .int m] ∧ (x.cps.size : Int) ≤ m ∧ x.cps.size ≤ 10000 ∧ x.cps.size = y.cps.size ∧ Over L x ∧ Over L y ∧ ∀ H', Same H H' → Q .non H'
theorem sc17 : FnScope ["letters", "one", "other", "most"] ["letters", "one", "other", "most"] (defScope (top 20)) := ⟨rfl, rfl, rfl, by decide +kernel, rfl, by decide +kernel, by decide +kernel⟩
theorem ok_checktwo {f f16 : Addr} {fd fd16 : FuncData} (D : Def K mg "check_two_words" (top 20) ["letters", "one", "other", "most"] f fd) (T : BI mg) (D16 : Def K mg "check_word" (top 19) ["letters", "word", "most"] f16 fd16) (G16 : FnOk P w K mg base CX0 2 f16 fd16 ["letters", "word", "most"] spCheckWord) :
    FnOk P w K mg base CX0 3 f fd ["letters", "one", "other", "most"] spCheckTwo := by
  refine D.F.ok sc17 (fun vs H Q E h => ?_) (fun cdv A outer s H vs Q E hr h => ?_)
  · obtain ⟨L, x, y, m, rfl, _⟩ := h; rfl
  · obtain ⟨L, x, y, m, rfl, hm, hs, he, ho1, ho2, k⟩ := h
    refine ⟨_, pss_cons (ps_expr (pe_call G16 hr (by rfl) D16.m D16.F.kp D16.b .nil pass0 (pa_cons (pv 0) (pa_cons (pv 1) (pa_cons (pv 3) pa_nil)))))
      (pss_cons (ps_expr (pe_call G16 hr (by rfl) D16.m D16.F.kp D16.b .nil pass0 (pa_cons (pv 0) (pa_cons (pv 2) (pa_cons (pv 3) pa_nil)))))
      (pss_one (ps_if (pt_cmp (pc_neI (pe_callB call_len_str (by rfl) T.len PySem.boot_len (pa_cons (pv 1) pa_nil)) (pe_callB call_len_str (by rfl) T.len PySem.boot_len (pa_cons (pv 2) pa_nil)))) pss_never pss_nil))), ?_⟩
    refine ⟨_, rfl, _, rfl, _, rfl, L, x, m, rfl, hm, hs, ho1, fun H1 s1 => ?_⟩
    refine ⟨_, rfl, _, rfl, _, rfl, L, y, m, rfl, by omega, by omega, ho2, fun H2 s2 => ?_⟩
    refine ⟨_, rfl, x, rfl, sz_le (by show x.cps.size ≤ _; omega), _, rfl, y, rfl, sz_le (by show y.cps.size ≤ _; omega), _, _, rfl, rfl, _, rfl, ?_⟩
    exact iteNS (show ((x.length : Nat) : Int) = ((y.length : Nat) : Int) by show ((x.cps.size : Nat) : Int) = ((y.cps.size : Nat) : Int); omega) (k H2 (s1.trans s2))
/-! ### pair_at -/
def spPairAt : Sp := fun vs H Q _ => ∃ (L : Str) (a b : Nat), vs = [.str L, .str ⟨#[a]⟩, .str ⟨#[b]⟩] ∧ a ∈ L.cps.toList ∧ b ∈ L.cps.toList ∧ L.cps.size ≤ 1000 ∧ Q (.int ((L.cps.toList.idxOf a * L.cps.size + L.cps.toList.idxOf b : Nat) : Int)) H
theorem sc21 : FnScope ["letters", "first", "last"] ["letters", "first", "last"] (defScope (top 23)) := ⟨rfl, rfl, rfl, by decide +kernel, rfl, by decide +kernel, by decide +kernel⟩
theorem ok_pairat {f : Addr} {fd : FuncData} (D : Def K mg "pair_at" (top 23) ["letters", "first", "last"] f fd) (T : BI mg) : FnOk P w K mg base CX0 1 f fd ["letters", "first", "last"] spPairAt := by
  refine D.F.ok sc21 (fun vs H Q E h => ?_) (fun cdv A outer s H vs Q E hr h => ?_)
  · obtain ⟨L, a, b, rfl, _⟩ := h; rfl
  · obtain ⟨L, a, b, rfl, ha, hb, hl, k⟩ := h
    refine ⟨_, pss_one (ps_ret (pe_op op_add (pe_op op_mul (pe_sindex (pv 0) (pv 1)) (pe_callB call_len_str (by rfl) T.len PySem.boot_len (pa_cons (pv 0) pa_nil))) (pe_sindex (pv 0) (pv 2)))), ?_⟩
    refine ⟨_, rfl, ⟨_, rfl⟩, _, rfl, L, a, rfl, rfl, ha, _, rfl, L, rfl, sz_le (by show L.cps.size ≤ _; omega), _, _, rfl, rfl, .inr ?_, _, rfl, ⟨_, rfl⟩, _, rfl, L, b, rfl, rfl, hb, _, _, rfl, rfl, ?_⟩
    · show -(2 ^ 64) < ((L.cps.size : Nat) : Int) ∧ ((L.cps.size : Nat) : Int) < 2 ^ 64
      omega
    · have e : (((L.cps.toList.idxOf a : Nat) : Int) * ((L.length : Nat) : Int) + ((L.cps.toList.idxOf b : Nat) : Int)) = ((L.cps.toList.idxOf a * L.cps.size + L.cps.toList.idxOf b : Nat) : Int) := by
        show (((L.cps.toList.idxOf a : Nat) : Int) * ((L.cps.size : Nat) : Int) + ((L.cps.toList.idxOf b : Nat) : Int)) = _
        rw [Int.natCast_add, Int.natCast_mul]
      dsimp only
      rw [e]
      exact k
/-! ### state_behind -/
def spStateBehind : Sp := fun vs H Q _ => ∃ (v : V) (M : Mach) (l r : Str), vs = [v, .str l, .str r] ∧ MAt H v M ∧ M.Ok ∧ Over M.letters l ∧ Over M.letters r ∧ l.cps.size = r.cps.size ∧ l.cps.size ≤ 10000 ∧ ∀ H', Same H H' → Q (.int (M.bhd l.cps.toList r.cps.toList : Nat)) H'
theorem sc22 : FnScope ["machine", "left", "right", "letters", "moves", "state", "first", "last"] ["machine", "left", "right"] (defScope (top 24)) := ⟨rfl, rfl, rfl, by decide +kernel, rfl, by decide +kernel, by decide +kernel⟩
theorem run_snoc (M : Mach) (q : Nat) (ps : List (Nat × Nat)) (p : Nat × Nat) : M.run q (ps ++ [p]) = M.stp (M.run q ps) p := by
  unfold Mach.run; rw [List.foldl_append]; rfl
theorem ok_statebehind {f f21 : Addr} {fd fd21 : FuncData} (D : Def K mg "state_behind" (top 24) ["machine", "left", "right"] f fd) (T : BI mg) (D21 : Def K mg "pair_at" (top 23) ["letters", "first", "last"] f21 fd21) :
    FnOk P w K mg base CX0 2 f fd ["machine", "left", "right"] spStateBehind := by
  have G21 : FnOk P w K mg base CX0 1 f21 fd21 ["letters", "first", "last"] spPairAt := ok_pairat D21 T
  refine D.F.ok sc22 (fun vs H Q E h => ?_) (fun cdv A outer s H vs Q E hr h => ?_)
  · obtain ⟨v, M, l, r, rfl, _⟩ := h; rfl
  · obtain ⟨v, M, l, r, rfl, ⟨a, pm, pe, pq, rs, qs, rfl, h1, h2, h3, h4, h5, h6⟩, ok, hol, hor, hlr, hl, k⟩ := h
    refine ⟨_, pss_cons (ps_par (by rfl) sc22.nd (i := 3) (j := 4) rfl rfl (by decide) rfl rfl (pa_cons (pe_ix ix_tup (pv 0) pe_int (fun _ _ => rfl)) (pa_cons (pe_ix ix_tup (pv 0) pe_int (fun _ _ => rfl)) pa_nil)) (by rfl))
      (pss_cons (ps_set (i := 5) sc22.nd rfl (Or.inl rfl) pe_int)
      (pss_cons (ps_for PassesOwn.never rfl (pi_zipS (by rfl) T.zip (pa_cons (pv 1) (pa_cons (pe_rev (pv 2)) pa_nil)))
        (pg_tup rfl (pgs_cons (pg_name (i := 6) sc22.nd rfl (Or.inl rfl)) (pgs_cons (pg_name (i := 7) sc22.nd rfl (Or.inl rfl)) pgs_nil)))
        (pss_one (ps_set (i := 5) sc22.nd rfl (Or.inl rfl) (pe_ix ix_list (pe_ix ix_list (pv 4) (pv 5) (fun _ _ => rfl)) (pe_call G21 hr (by rfl) D21.m D21.F.kp D21.b .nil pass0 (pa_cons (pv 3) (pa_cons (pv 6) (pa_cons (pv 7) pa_nil)))) (fun _ _ => rfl)))))
      (pss_one (ps_ret (pv 5))))), ?_⟩
    refine ⟨_, rfl, a, _, _, _, rfl, rfl, SqT.of h1, rfl, _, rfl, a, _, _, _, rfl, rfl, SqT.of h1, rfl, _, _, rfl, ?_⟩
    have hrs : (revS r).cps.size = r.cps.size := by
      have := congrArg List.length (rev_list r)
      simpa using this
    refine ⟨_, rfl, _, rfl, r, rfl, sz_le (by show r.cps.size ≤ _; omega), l, _, rfl, for_it (n := l.cps.size) (fun i σ H' => ∃ x y, σ = [some (.ref a), some (.str l), some (.str r), some (.str M.letters), some (.ref pm), some (.int (M.run 0 ((l.cps.toList.zip r.cps.toList.reverse).take i) : Nat)), x, y] ∧ Same H H')
      ⟨none, none, rfl, Same.refl _⟩ (fun i σ H' hi _ => ⟨hi, by rw [hrs, ← hlr]; exact hi⟩) (fun σ H' _ => .inl rfl) ?_ ?_⟩
    · rintro i v σ H1 H2 hi ⟨x, y, rfl, s1⟩ ⟨Tp, c, d, rfl, hT, rfl, hc, hd⟩
      have hc' : l.cps.toList[i]? = some c := by rw [Array.getElem?_toList]; exact hc
      have hd' : r.cps.toList.reverse[i]? = some d := by rw [← rev_list, Array.getElem?_toList]; exact hd
      have hz : (l.cps.toList.zip r.cps.toList.reverse)[i]? = some (c, d) := by rw [List.getElem?_zip_eq_some]; exact ⟨hc', hd'⟩
      have mc : c ∈ M.L := hol c (List.mem_of_getElem? hc')
      have md : d ∈ M.L := hor d (List.mem_reverse.mp (List.mem_of_getElem? hd'))
      have hq : M.run 0 ((l.cps.toList.zip r.cps.toList.reverse).take i) < M.n := Mach.run_lt ok _ _ ok.n1 fun p hp => by
        obtain ⟨q1, q2⟩ := List.of_mem_zip (List.mem_of_mem_take hp)
        exact ⟨hol _ q1, hor _ (List.mem_reverse.mp q2)⟩
      obtain ⟨row, er, ec, _⟩ := Mach.cell ok hq mc md
      have er' : (M.moves.map vI)[M.run 0 ((l.cps.toList.zip r.cps.toList.reverse).take i)]? = some (vI row) := by rw [List.getElem?_map, er]; rfl
      obtain ⟨p, hp, hpl⟩ := h3.at er'
      have s2 : Same H (upd H1 Tp (.tup [.str ⟨#[c]⟩, .str ⟨#[d]⟩])) := s1.trans (Same.upd hT)
      refine ⟨Tp, _, rfl, SqT.of upd_same, rfl, _, _, rfl, _, _, rfl, rfl, ?_⟩
      refine ⟨_, rfl, _, rfl, pm, rs, _, _, rfl, rfl, SqL.of (s2 _ _ h2), atI_nat hp, ?_⟩
      refine ⟨_, rfl, _, rfl, _, rfl, M.letters, c, d, rfl, mc, md, by have := ok.let_.k3; omega, ?_⟩
      refine ⟨p, vI row, _, _, rfl, rfl, SqL.of (s2 _ _ hpl), atI_nat (by rw [List.getElem?_map, show row[M.letters.cps.toList.idxOf c * M.letters.cps.size + M.letters.cps.toList.idxOf d]? = _ from ec]; rfl), ?_⟩
      refine ⟨some (.str ⟨#[c]⟩), some (.str ⟨#[d]⟩), ?_, s2⟩
      rw [List.take_succ_eq_append_getElem (by exact (List.getElem?_eq_some_iff.mp hz).1), (List.getElem?_eq_some_iff.mp hz).2, run_snoc]
      rfl
    · rintro σ H' ⟨x, y, rfl, s1⟩
      refine ⟨_, rfl, ?_⟩
      rw [List.take_of_length_le (by simp; omega)]
      exact k H' s1
end
end Be

namespace Be
open PySem L2
theorem ite2D {c A B : Prop} [Decidable c] (h1 : c → A) (h2 : ¬ c → B) : if decide c = true then A else B := by
  by_cases h : c
  · exact iteD h (h1 h)
  · exact iteND h (h2 h)
section
variable {P : Program} {w : World} {K : PySem.W.Frag} {mg : Str → Option Value} {base : Heap}
def spReads : Sp := fun vs H Q _ => ∃ (v : V) (M : Mach) (x : Str), vs = [v, .str x] ∧ MAt H v M ∧ M.Ok ∧ Over M.letters x ∧ x.cps.size ≤ 10000 ∧ ∀ H', Same H H' → Q (.bl (M.has x.cps.toList)) H'
theorem scRd : FnScope ["machine", "word", "letters", "moves", "ends", "middles", "half", "state"] ["machine", "word"] (defScope (top 25)) := ⟨rfl, rfl, rfl, by decide +kernel, rfl, by decide +kernel, by decide +kernel⟩
theorem ok_reads {f f22 : Addr} {fd fd22 : FuncData} (D : Def K mg "reads" (top 25) ["machine", "word"] f fd) (T : BI mg)
    (D22 : Def K mg "state_behind" (top 24) ["machine", "left", "right"] f22 fd22) (G22 : FnOk P w K mg base CX0 2 f22 fd22 ["machine", "left", "right"] spStateBehind) :
    FnOk P w K mg base CX0 3 f fd ["machine", "word"] spReads := by
  refine D.F.ok scRd (fun vs H Q E h => ?_) (fun cdv A outer s H vs Q E hr h => ?_)
  · obtain ⟨v, M, x, rfl, _⟩ := h; rfl
  · obtain ⟨v, M, x, rfl, hM, ok, ho, hl, k⟩ := h
    obtain ⟨a, pm, pe, pq, rs, qs, rfl, h1, h2, h3, h4, h5, h6⟩ := id hM
    refine ⟨_, pss_cons (ps_asg (pv 0) (pg_tup (by rfl) (pgs_cons (pg_name (i := 2) scRd.nd rfl (Or.inl rfl)) (pgs_cons (pg_name (i := 3) scRd.nd rfl (Or.inl rfl)) (pgs_cons (pg_name (i := 4) scRd.nd rfl (Or.inl rfl)) (pgs_cons (pg_name (i := 5) scRd.nd rfl (Or.inl rfl)) pgs_nil))))))
      (pss_cons (ps_set (i := 6) scRd.nd rfl (Or.inl rfl) (pe_op op_fdiv (pe_callB call_len_str (by rfl) T.len PySem.boot_len (pa_cons (pv 1) pa_nil)) pe_int))
      (pss_cons (ps_set (i := 7) scRd.nd rfl (Or.inl rfl) (pe_call G22 (hr.mono (by decide)) (by rfl) D22.m D22.F.kp D22.b .nil pass0 (pa_cons (pv 0)
        (pa_cons (pe_slice sl_str (pv 1) po_none (po_some (pv 6))) (pa_cons (pe_slice sl_str (pv 1) (po_some (pe_op op_sub (pe_callB call_len_str (by rfl) T.len PySem.boot_len (pa_cons (pv 1) pa_nil)) (pv 6))) po_none) pa_nil)))))
      (pss_cons (ps_if (pt_cmp (pc_eqI (pe_callB call_len_str (by rfl) T.len PySem.boot_len (pa_cons (pv 1) pa_nil)) (pe_op op_mul pe_int (pv 6)))) (pss_one (ps_ret (pe_ix ix_list (pv 4) (pv 7) (fun _ _ => rfl)))) pss_nil)
      (pss_one (ps_ret (pe_ix ix_list (pe_ix ix_list (pv 5) (pv 7) (fun _ _ => rfl)) (pe_sindex (pv 2) (pe_ix ix_str (pv 1) (pv 6) (fun _ _ => rfl))) (fun _ _ => rfl))))))), ?_⟩
    have hz : x.length ≤ sizeLine := sz_le (by show x.cps.size ≤ _; omega)
    have el : x.cps.toList.length = x.cps.size := Array.length_toList
    refine ⟨_, rfl, a, _, rfl, SqT.of h1, rfl, _, _, rfl, _, _, rfl, _, _, rfl, _, _, rfl, rfl, ?_⟩
    have s02 := Same.refl H
    refine ⟨_, rfl, x, rfl, hz, _, _, rfl, rfl, ⟨by decide, by decide⟩, ?_⟩
    have e2 : ((x.length : Nat) : Int) / 2 = ((x.cps.size / 2 : Nat) : Int) := by show ((x.cps.size : Nat) : Int) / 2 = _; omega
    dsimp only
    rw [e2]
    have e3 : ((x.length : Nat) : Int) - ((x.cps.size / 2 : Nat) : Int) = ((x.cps.size - x.cps.size / 2 : Nat) : Int) := by show ((x.cps.size : Nat) : Int) - _ = _; omega
    have hr3 : (cutS x (some (((x.length : Nat) : Int) - ((x.cps.size / 2 : Nat) : Int))) none).cps.toList = x.cps.toList.drop (x.cps.size - x.cps.size / 2) := by rw [e3]; exact cut_drop _ _
    have hl3 := cut_take x (x.cps.size / 2)
    have szl : (cutS x none (some ((x.cps.size / 2 : Nat) : Int))).cps.size = x.cps.size / 2 := by
      have := congrArg List.length hl3
      simp only [Array.length_toList, List.length_take] at this
      omega
    have szr : (cutS x (some (((x.length : Nat) : Int) - ((x.cps.size / 2 : Nat) : Int))) none).cps.size = x.cps.size / 2 := by
      have := congrArg List.length hr3
      simp only [Array.length_toList, List.length_drop] at this
      omega
    refine ⟨_, rfl, _, rfl, _, rfl, _, rfl, x, rfl, hz, _, rfl, _, rfl, x, rfl, hz, _, rfl, _, _, rfl, rfl, _, rfl, x, rfl, hz, _, M, _, _, rfl, hM.same s02, ok, ?_, ?_, by rw [szl]; exact szr.symm, by rw [szl]; omega, fun H3 s3 => ?_⟩
    · intro c hc
      rw [hl3] at hc
      exact ho c (List.mem_of_mem_take hc)
    · intro c hc
      rw [hr3] at hc
      exact ho c (List.mem_of_mem_drop hc)
    rw [hl3, hr3]
    have s03 := s02.trans s3
    have hq : M.bhd (x.cps.toList.take (x.cps.size / 2)) (x.cps.toList.drop (x.cps.size - x.cps.size / 2)) < M.n :=
      Mach.bhd_lt ok (fun c hc => ho c (List.mem_of_mem_take hc)) (fun c hc => ho c (List.mem_of_mem_drop hc))
    have hk := k
    unfold Mach.has at hk
    simp only [el] at hk
    generalize hqq : M.bhd (x.cps.toList.take (x.cps.size / 2)) (x.cps.toList.drop (x.cps.size - x.cps.size / 2)) = q at hq hk ⊢
    refine ⟨_, rfl, x, rfl, hz, _, rfl, _, _, rfl, rfl, .inl ⟨by decide, by decide⟩, _, _, rfl, rfl, _, rfl, ?_⟩
    refine ite2D (fun hc => ?_) (fun hc => ?_)
    · have hc' : ((x.cps.size : Nat) : Int) = 2 * ((x.cps.size / 2 : Nat) : Int) := hc
      rw [if_pos (by omega)] at hk
      refine ⟨_, rfl, _, rfl, pe, _, _, _, rfl, rfl, SqL.of (s03 _ _ h4), atI_nat (by rw [List.getElem?_map, Mach.fin_at ok hq]; rfl), hk H3 s03⟩
    · have hc' : ¬ ((x.cps.size : Nat) : Int) = 2 * ((x.cps.size / 2 : Nat) : Int) := hc
      rw [if_neg (by omega)] at hk
      have hlt : x.cps.size / 2 < x.cps.toList.length := by rw [el]; omega
      have hcx : x.cps.toList[x.cps.size / 2]? = some (x.cps.toList.getD (x.cps.size / 2) 0) := by
        rw [List.getD_eq_getElem?_getD, List.getElem?_eq_getElem hlt, Option.getD_some]
      have mc : x.cps.toList.getD (x.cps.size / 2) 0 ∈ M.L := ho _ (List.mem_of_getElem? hcx)
      obtain ⟨row, er, ec⟩ := Mach.mid_at ok hq mc
      have er' : (M.mids.map vB)[q]? = some (vB row) := by rw [List.getElem?_map, er]; rfl
      obtain ⟨p, hp, hpl⟩ := h6.at er'
      refine ⟨_, rfl, _, rfl, pq, qs, _, _, rfl, rfl, SqL.of (s03 _ _ h5), atI_nat hp, _, rfl, ⟨_, rfl⟩, _, rfl, _, rfl, x, _, _, rfl, rfl, hz, atI_nat hcx, M.letters, _, rfl, rfl, mc, p, _, _, _, rfl, rfl, SqL.of (s03 _ _ hpl), atI_nat (by rw [List.getElem?_map, show row[M.letters.cps.toList.idxOf (x.cps.toList.getD (x.cps.size / 2) 0)]? = _ from ec]; rfl), hk H3 s03⟩
end
end Be

namespace L2
open PySem PySem.Spec PyProof.Rows
section
variable {X : Cx}
/-- a statement's ways joined: R holds behind each of them -/
def tJoin (t : TS) : TS := fun D σ H => ∃ R : St → Hp → Prop, t { D with nx := R } σ H ∧ ∀ σ' H', R σ' H' → D.nx σ' H'
theorem ps_join {st : Stmt} {t : TS} (h : PS X st t) : PS X st (tJoin t) := by
  intro pins s σ H D I hq
  obtain ⟨R, hq, hR⟩ := hq
  refine thn (h pins s σ H _ I hq) fun f s1 q => ?_
  cases f with
  | next => obtain ⟨σ', H', I', r⟩ := q; exact ⟨σ', H', I', hR σ' H' r⟩
  | brk => exact q
  | cont => exact q
  | ret u => exact q
/-- written whole numbers, many of them -/
def isIC : Expr → Bool
  | .Constant (.int _) _ _ => true
  | _ => false
def icV : Expr → V
  | .Constant (.int i) _ _ => .int i
  | _ => .non
theorem pa_consts : ∀ {es : List Expr}, es.all isIC = true → PA X es (fun _ H Q => Q (es.map icV) H)
  | [], _ => pa_nil
  | e :: es, h => by
    have h1 : isIC e = true ∧ es.all isIC = true := by simpa using h
    obtain ⟨h1, h2⟩ := h1
    have ih := pa_consts h2
    unfold isIC at h1
    split at h1
    · exact pa_cons pe_int ih
    · cases h1
/-- a, b, c = x, y, z with plain local names -/
def tPar3 (i j k : Nat) (ta : TA) : TS := fun D σ H => ta σ H fun vs H1 => ∃ v w z, vs = [v, w, z] ∧ D.nx (((σ.set i (some v)).set j (some w)).set k (some z)) H1
theorem ps_par3 {i j k : Nat} {x y z : Str} {a b c : Expr} {ta : TA} {px py pz pt : Pos} {kt k2 pt2} {pos : Pos} (hc : X.calm = true) (hN : X.N.Nodup) (hi : X.N[i]? = some x) (hj : X.N[j]? = some y) (hk : X.N[k]? = some z) (hij : i ≠ j) (hik : i ≠ k) (hjk : j ≠ k)
    (hx : X.env.scope.names.lookup x = some .local) (hy : X.env.scope.names.lookup y = some .local) (hz : X.env.scope.names.lookup z = some .local) (ha : PA X [a, b, c] ta)
    (hw : swappedStores [.Tuple [.Name x px, .Name y py, .Name z pz] kt pt] (.Tuple [a, b, c] k2 pt2) X.env = pure (some [x, y, z]))
    (hs : swapsWithSole [.Tuple [.Name x px, .Name y py, .Name z pz] kt pt] (.Tuple [a, b, c] k2 pt2) pos.line X.env = pure false := by rfl) :
    PS X (.Assign [.Tuple [.Name x px, .Name y py, .Name z pz] kt pt] (.Tuple [a, b, c] k2 pt2) pos) (tPar3 i j k ta) := by
  intro pins s σ H D I h
  rw [exec_Assign_arm]
  refine wpAny_bind (wpAny_standAt ?_)
  rw [hs]
  refine wpAny_bind (wpAny_pure ?_)
  rw [if_neg (by decide)]
  refine wpAny_bind (Tuple_ (thn (ha _ pins s σ H _ I h) fun us s1 ⟨vs, H1, I1, r1, q1⟩ => ?_))
  obtain ⟨v, w, z', e1, q1⟩ := q1
  subst e1
  obtain ⟨u1, u2, u3, rfl, rv, rw', rz⟩ : ∃ u1 u2 u3, us = [u1, u2, u3] ∧ RelV v u1 ∧ RelV w u2 ∧ RelV z' u3 := by
    cases r1 with
    | cons p q =>
      cases q with
      | cons p' q' =>
        cases q' with
        | cons p'' q'' =>
          cases q''
          exact ⟨_, _, _, rfl, p, p', p''⟩
  refine wpAny_newObj_type ?_ (by show 3 ≤ sizeLine; decide)
  have I2 : Inv X pins σ H1 { s1 with heap := s1.heap.push { cls := .type "tuple", data := .seq [u1, u2, u3].toArray } } := I1.kept (t' := s1.toks) fun b o e => Heap.get?_push_of_some _ e
  rw [hw]
  refine wpAny_bind (wpAny_pure ?_)
  show wpAny (model X.prog X.w) X.A (do rule "assign.swapped-stores"; let items ← unpackItems (.ref s1.heap.objs.size) 3 none; assignInOrder [fun v => bindName X.env z v, fun v => bindName X.env y v, fun v => bindName X.env x v] items.reverse; pure Flow.next) _ _ _
  refine wpAny_bind (wpAny_rule (wpAny_bind (unpackItems_tuple (items := #[u1, u2, u3]) (I.ok.hd hc) (IsTup.new s1.heap _) fun h' hx' => ?_)))
  have I3 := I2.kept (h' := h') (t' := s1.toks) fun b o e => hx' b o (Nat.ne_of_lt (Heap.lt_size e)) e
  show wpAny _ _ (assignInOrder [fun v => bindName X.env z v, fun v => bindName X.env y v, fun v => bindName X.env x v] [u3, u2, u1] >>= fun _ => pure Flow.next) _ _ _
  refine wpAny_bind (assignInOrder_cons (wpAny_bindName (store_ok I3 hN hk (.inl hz) rz (fun s2 I4 => ?_) (.inr hz))))
  refine assignInOrder_cons (wpAny_bindName (store_ok I4 hN hj (.inl hy) rw' (fun s3 I5 => ?_) (.inr hy)))
  refine assignInOrder_cons (wpAny_bindName (store_ok I5 hN hi (.inl hx) rv (fun s4 I6 => assignInOrder_nil (wpAny_pure ?_)) (.inr hx)))
  have e : ((σ.set k (some z')).set j (some w)).set i (some v) = ((σ.set i (some v)).set j (some w)).set k (some z') := by
    rw [List.set_comm _ _ (Ne.symm hij), List.set_comm _ _ (Ne.symm hik), List.set_comm _ _ (Ne.symm hjk)]
  rw [e] at I6
  exact ⟨_, H1, I6, q1⟩
end
end L2
namespace Be
open PySem L2
section
variable {P : Program} {w : World} {K : PySem.W.Frag} {mg : Str → Option Value} {base : Heap}
/-! ### _law_cell_at -/
def spCell (K : PySem.W.Frag) : Sp := fun vs H Q _ => ∃ (a : Addr) (ns : List Int) (k : Int), vs = [.ref a, .int k] ∧ SqL K H a (ns.map V.int) ∧ 0 ≤ k ∧ ∀ i, Q (.int i) H
theorem sc26 : FnScope ["_law_script", "_law_k"] ["_law_script", "_law_k"] (defScope (top 44)) := ⟨rfl, rfl, rfl, by decide +kernel, rfl, by decide +kernel, by decide +kernel⟩
theorem ok_cell {f : Addr} {fd : FuncData} (D : Def K mg "_law_cell_at" (top 44) ["_law_script", "_law_k"] f fd) (T : BI mg) : FnOk P w K mg base CX0 1 f fd ["_law_script", "_law_k"] (spCell K) := by
  refine D.F.ok sc26 (fun vs H Q E h => ?_) (fun cdv A outer s H vs Q E hr h => ?_)
  · obtain ⟨a, ns, k, rfl, _⟩ := h; rfl
  · obtain ⟨a, ns, k, rfl, hS, h0, kk⟩ := h
    refine ⟨_, pss_cons (ps_if (pt_cmp (pc_lt (pv 1) (pe_callB call_len_seq (by rfl) T.len PySem.boot_len (pa_cons (pv 0) pa_nil)))) (pss_one (ps_ret (pe_ix ix_list (pv 0) (pv 1) (fun _ _ => rfl)))) pss_nil)
      (pss_one (ps_ret pe_int)), ?_⟩
    refine ⟨_, rfl, _, rfl, a, _, rfl, .inl hS, _, _, rfl, rfl, _, rfl, ite2D (fun hc => ?_) (fun hc => ?_)⟩
    · have hlt : k.toNat < ns.length := by rw [List.length_map] at hc; omega
      refine ⟨_, rfl, _, rfl, a, _, _, _, rfl, rfl, hS, at_of (j := k.toNat) (by omega) (by rw [List.getElem?_map, List.getElem?_eq_getElem hlt]; rfl), kk _⟩
    · exact kk 0
/-! ### _law_draw -/
def primes : List Int := [1000003, 1000033, 1000037, 1000039, 1000081, 1000099, 1000117, 1000121, 1000133, 1000151, 1000159, 1000171, 1000183, 1000187, 1000193, 1000199]
def spDraw : Sp := fun vs H Q _ => ∃ (c k m : Int), vs = [.int c, .int k, .int m] ∧ 0 ≤ k ∧ 0 < m ∧ ∀ r H', 0 ≤ r → r < m → Same H H' → Q (.int r) H'
theorem sc27 : FnScope ["_law_cell", "_law_k", "_law_many", "_law_primes"] ["_law_cell", "_law_k", "_law_many"] (defScope (top 45)) := ⟨rfl, rfl, rfl, by decide +kernel, rfl, by decide +kernel, by decide +kernel⟩
theorem ok_draw {f : Addr} {fd : FuncData} (D : Def K mg "_law_draw" (top 45) ["_law_cell", "_law_k", "_law_many"] f fd) : FnOk P w K mg base CX0 1 f fd ["_law_cell", "_law_k", "_law_many"] spDraw := by
  refine D.F.ok sc27 (fun vs H Q E h => ?_) (fun cdv A outer s H vs Q E hr h => ?_)
  · obtain ⟨c, k, m, rfl, _⟩ := h; rfl
  · obtain ⟨c, k, m, rfl, h0, hm, kk⟩ := h
    refine' ⟨_, pss_cons ?s1 ?s2, ?r⟩
    case s1 =>
      refine' ps_set (i := 3) ?n ?h1 ?h2 ?h3
      case n => exact sc27.nd
      case h1 => rfl
      case h2 => exact Or.inl rfl
      case h3 =>
        refine' pe_tup ?c
        case c =>
          refine' @pa_consts _ _ ?z
          rfl
    case s2 => exact pss_one (ps_ret (pe_op op_mod (pe_op op_mod (pe_op op_add (pe_op op_mul (pv 0) pe_int) (pe_op op_mul (pv 1) pe_int)) (pe_ix ix_tup (pv 3) (pe_op op_mod (pv 1) pe_int) (fun _ _ => rfl))) (pv 2)))
    case r =>
      refine ⟨by show 16 ≤ sizeLine; decide, fun p hp => ?_⟩
      have hj : (k % 16).toNat < primes.length := by show (k % 16).toNat < 16; omega
      have hpos : 0 < primes[(k % 16).toNat]'hj := (by decide : ∀ p ∈ primes, 0 < p) _ (List.getElem_mem hj)
      have hat : atI (primes.map V.int) (k % 16) = some (.int (primes[(k % 16).toNat]'hj)) := at_of (j := (k % 16).toNat) (by omega) (by rw [List.getElem?_map, List.getElem?_eq_getElem hj]; rfl)
      generalize primes[(k % 16).toNat]'hj = pr at hpos hat
      refine ⟨_, rfl, _, _, rfl, rfl, .inr ⟨by decide, by decide⟩, ?_⟩
      refine ⟨_, rfl, _, _, rfl, rfl, .inr ⟨by decide, by decide⟩, ?_⟩
      refine ⟨_, _, rfl, rfl, ?_⟩
      refine ⟨_, rfl, ?_⟩
      refine ⟨_, rfl, _, _, rfl, rfl, (by show (0 : Int) < 16; decide), ?_⟩
      refine ⟨p, primes.map V.int, _, .int pr, rfl, rfl, SqT.of upd_same, hat, ?_⟩
      refine ⟨_, _, rfl, rfl, hpos, ?_⟩
      refine ⟨_, rfl, _, _, rfl, rfl, hm, ?_⟩
      exact kk _ _ (Int.emod_nonneg _ (by omega)) (Int.emod_lt_of_pos _ hm) (Same.upd hp)
/-! ### _law_value -/
def spValue : Sp := fun vs H Q _ => ∃ (c t : Int), vs = [.int c, .int t] ∧ 0 ≤ t ∧ t ≤ 100000 ∧ ∀ v H', 0 ≤ v → Same H H' → Q (.int v) H'
theorem sc28 : FnScope ["_law_cell", "_law_turn", "_law_rest", "_law_mixed"] ["_law_cell", "_law_turn"] (defScope (top 46)) := ⟨rfl, rfl, rfl, by decide +kernel, rfl, by decide +kernel, by decide +kernel⟩
theorem ok_value {f f27 : Addr} {fd fd27 : FuncData} (D : Def K mg "_law_value" (top 46) ["_law_cell", "_law_turn"] f fd) (D27 : Def K mg "_law_draw" (top 45) ["_law_cell", "_law_k", "_law_many"] f27 fd27) :
    FnOk P w K mg base CX0 2 f fd ["_law_cell", "_law_turn"] spValue := by
  have G27 : FnOk P w K mg base CX0 1 f27 fd27 ["_law_cell", "_law_k", "_law_many"] spDraw := ok_draw D27
  refine D.F.ok sc28 (fun vs H Q E h => ?_) (fun cdv A outer s H vs Q E hr h => ?_)
  · obtain ⟨c, t, rfl, _⟩ := h; rfl
  · obtain ⟨c, t, rfl, h0, ht, kk⟩ := h
    refine ⟨_, pss_cons (ps_if (pt_cmp (pc_ge (pv 0) (pe_op op_pow pe_int pe_int))) (pss_one (ps_ret (pe_op op_shr (pe_op op_mod (pe_op op_sub (pv 0) (pe_op op_pow pe_int pe_int)) (pe_op op_pow pe_int pe_int)) (pe_op op_mul pe_int (pv 1))))) pss_nil)
      (pss_cons (ps_set (i := 2) sc28.nd rfl (Or.inl rfl) (pe_op op_mod (pv 0) (pe_op op_pow pe_int pe_int)))
      (pss_cons (ps_set (i := 3) sc28.nd rfl (Or.inl rfl) (pe_call G27 hr (by rfl) D27.m D27.F.kp D27.b .nil pass0 (pa_cons (pe_op op_mul (pe_op op_add (pv 2) (pe_op op_mul pe_int (pv 1))) (pe_op op_add (pe_op op_add (pv 2) (pe_op op_mul pe_int (pv 1))) pe_int))
        (pa_cons (pe_op op_add (pe_op op_mod (pv 1) pe_int) pe_int) (pa_cons pe_int pa_nil)))))
      (pss_one (ps_ret (pe_op op_add (pe_op op_mul (pv 3) pe_int) (pe_call G27 hr (by rfl) D27.m D27.F.kp D27.b .nil pass0 (pa_cons (pe_op op_add (pe_op op_mul (pe_op op_add (pv 2) (pe_op op_mul pe_int (pv 1))) (pe_op op_add (pv 2) pe_int)) (pe_op op_mul pe_int (pv 1)))
        (pa_cons (pe_op op_add (pe_op op_mod (pv 1) pe_int) pe_int) (pa_cons pe_int pa_nil))))))))), ?_⟩
    have e18 : (10 : Int) ^ (18 : Int).toNat = 1000000000000000000 := by decide
    refine ⟨_, rfl, _, _, rfl, rfl, ⟨by decide, by decide, by decide⟩, _, _, rfl, rfl, _, rfl, ite2D (fun hc => ?_) (fun hc => ?_)⟩
    · refine ⟨_, rfl, _, _, rfl, rfl, ⟨by decide, by decide, by decide⟩, _, _, rfl, rfl, _, _, rfl, rfl, ⟨by decide, by decide, by decide⟩, _, _, rfl, rfl, (by show (0 : Int) < 10 ^ Int.toNat 40; decide), _, rfl, _, _, rfl, rfl, .inl ⟨by decide, by decide⟩, _, _, rfl, rfl, (by show (0 : Int) ≤ 3 * t; omega), ?_⟩
      refine kk _ _ (Int.ediv_nonneg (Int.emod_nonneg _ (by decide)) ?_) (Same.refl _)
      exact Int.le_of_lt (Int.pow_pos (by decide))
    · refine ⟨_, rfl, _, _, rfl, rfl, ⟨by decide, by decide, by decide⟩, _, _, rfl, rfl, (by show (0 : Int) < 10 ^ Int.toNat 18; decide), ?_⟩
      dsimp only
      rw [e18]
      have r0 : 0 ≤ c % 1000000000000000000 := Int.emod_nonneg _ (by decide)
      have r1 : c % 1000000000000000000 < 1000000000000000000 := Int.emod_lt_of_pos _ (by decide)
      generalize c % 1000000000000000000 = r at r0 r1 ⊢
      have c1 : -(2 ^ 64) < r + 977 * t ∧ r + 977 * t < 2 ^ 64 := by omega
      have c2 : -(2 ^ 64) < r + 31 * t ∧ r + 31 * t < 2 ^ 64 := by omega
      refine ⟨_, rfl, _, rfl, _, _, rfl, rfl, .inl ⟨by decide, by decide⟩, _, _, rfl, rfl, _, rfl, _, rfl, _, _, rfl, rfl, .inl ⟨by decide, by decide⟩, _, _, rfl, rfl, _, _, rfl, rfl, _, _, rfl, rfl, .inl c1,
        _, rfl, _, _, rfl, rfl, (by show (0 : Int) < 9; decide), _, _, rfl, rfl, _, _, _, rfl, (by show 0 ≤ t % 9 + 1; omega), (by decide), fun m H1 m0 m1 s1 => ?_⟩
      refine ⟨_, rfl, _, _, rfl, rfl, .inr ⟨by decide, by decide⟩, _, rfl, _, rfl, _, _, rfl, rfl, .inl ⟨by decide, by decide⟩, _, _, rfl, rfl, _, rfl, _, _, rfl, rfl, _, _, rfl, rfl, .inl c2, _, rfl, _, _, rfl, rfl, .inl ⟨by decide, by decide⟩, _, _, rfl, rfl,
        _, rfl, _, _, rfl, rfl, (by show (0 : Int) < 7; decide), _, _, rfl, rfl, _, _, _, rfl, (by show 0 ≤ t % 7 + 2; omega), (by decide), fun m' H2 m0' m1' s2 => ?_⟩
      refine ⟨_, _, rfl, rfl, kk _ _ ?_ (s1.trans s2)⟩
      show 0 ≤ m * 1000003 + m'
      omega
/-! ### _law_whole, _law_says -/
def spSays : Sp := fun vs H Q _ => ∃ b : Bool, vs = [.bl b, .bl b] ∧ Q (.bl true) H
theorem sc30 : FnScope ["_law_said", "_law_due_here"] ["_law_said", "_law_due_here"] (defScope (top 47)) := ⟨rfl, rfl, rfl, by decide +kernel, rfl, by decide +kernel, by decide +kernel⟩
theorem ok_says {f : Addr} {fd : FuncData} (D : Def K mg "_law_says" (top 47) ["_law_said", "_law_due_here"] f fd) (T : BI mg) : FnOk P w K mg base CX0 1 f fd ["_law_said", "_law_due_here"] spSays := by
  refine D.F.ok sc30 (fun vs H Q E h => ?_) (fun cdv A outer s H vs Q E hr h => ?_)
  · obtain ⟨i, rfl, _⟩ := h; rfl
  · obtain ⟨i, rfl, k⟩ := h
    refine ⟨_, pss_one (ps_ret (pe_and (pe_callB call_isinst (by rfl) T.isinstance (by decide +kernel) (pa_cons (pv 0) (pa_cons (pe_bltn (v := .ty "bool") (by rfl) T.bool (by decide +kernel) rfl) pa_nil)))
      (pe_one (pe_cmpR op_eq (pv 0) (pv 1) (nomark _))))), ?_⟩
    refine ⟨_, rfl, _, _, _, _, rfl, TyOf.bl _, rfl, _, rfl, iteT ⟨_, rfl, _, rfl, rfl, ?_⟩⟩
    rw [decide_eq_true rfl]
    exact k
end
end Be

namespace Be
open PySem L2
/-! ### a heap without some places -/
def msk (H : Hp) (S : List Addr) : Hp := fun b => if b ∈ S then none else H b
theorem msk_at {H : Hp} {S : List Addr} {b : Addr} (h : b ∉ S) : msk H S b = H b := by unfold msk; rw [if_neg h]
theorem msk_le {H : Hp} {S : List Addr} : Same (msk H S) H := fun b o e => by
  unfold msk at e
  split at e
  · cases e
  · exact e
theorem msk_same {H H' : Hp} {S : List Addr} (s : Same H H') : Same (msk H S) (msk H' S) := fun b o e => by
  unfold msk at e ⊢
  split at e
  · cases e
  · rename_i h; rw [if_neg h]; exact s b o e
theorem msk_upd {H : Hp} {S : List Addr} {a : Addr} {o : HO} (h : a ∈ S) : msk (upd H a o) S = msk H S := by
  funext b
  unfold msk
  split
  · rfl
  · rename_i hb
    have : b ≠ a := fun e => hb (e ▸ h)
    rw [upd_ne this]
theorem msk_free {H : Hp} {S : List Addr} (hS : ∀ a ∈ S, H a = none) : Same H (msk H S) := fun b o e => by
  rw [msk_at (fun hb => by rw [hS b hb] at e; cases e)]; exact e
theorem RowsM.snoc {H : Hp} {S : List Addr} {rs : List V} {xss : List (List V)} {l : Addr} {xs : List V} (h : Rows (msk H S) rs xss) (hS : l ∉ S) (hl : H l = some (.lst xs)) : Rows (msk H S) (rs ++ [.ref l]) (xss ++ [xs]) :=
  Rows.snoc h (by rw [msk_at hS]; exact hl)
/-! ### letters, by looking -/
def rising : List Nat → Bool
  | a :: b :: r => decide (a < b) && rising (b :: r)
  | _ => true
theorem rising_up : ∀ {l : List Nat} {i c d : Nat}, rising l = true → l[i]? = some c → l[i + 1]? = some d → c < d
  | [], _, _, _, _, h, _ => by simp at h
  | [_], 0, _, _, _, _, h => by simp at h
  | [_], i + 1, _, _, _, h, _ => by simp at h
  | a :: b :: r, 0, c, d, h, h1, h2 => by
    simp at h1 h2
    simp [rising] at h
    omega
  | a :: b :: r, i + 1, c, d, h, h1, h2 => by
    simp [rising] at h
    exact rising_up (l := b :: r) (i := i) h.2 (by simpa using h1) (by simpa using h2)
def letB (l : List Nat) : Bool := decide (1 ≤ l.length) && decide (l.length ≤ 3) && l.all (fun c => decide (97 ≤ c)) && l.all (fun c => decide (c ≤ 122)) && rising l
theorem letOk_of {x : Str} (h : letB x.cps.toList = true) : LetOk x := by
  unfold letB at h
  simp only [Bool.and_eq_true, decide_eq_true_eq, List.all_eq_true] at h
  obtain ⟨⟨⟨⟨h1, h2⟩, h3⟩, h4⟩, h5⟩ := h
  refine ⟨by simpa using h1, by simpa using h2, h3, h4, fun i c d e1 e2 => ?_⟩
  rw [← Array.getElem?_toList] at e1 e2
  exact rising_up h5 e1 e2
section
variable {P : Program} {w : World} {K : PySem.W.Frag} {mg : Str → Option Value} {base : Heap}
/-! ### _law_letters -/
def spLetters (K : PySem.W.Frag) : Sp := fun vs H Q _ => ∃ (a : Addr) (ns : List Int), vs = [.ref a] ∧ SqL K H a (ns.map V.int) ∧ ∀ L H', LetOk L → Same H H' → Q (.str L) H'
theorem sc32 : FnScope ["_law_script"] ["_law_script"] (defScope (top 49)) := ⟨rfl, rfl, rfl, by decide +kernel, rfl, by decide +kernel, by decide +kernel⟩
def five : List Str := ["ab", "ab", "a", "abc", "xz"]
theorem ok_letters {f f26 f28 : Addr} {fd fd26 fd28 : FuncData} (D : Def K mg "_law_letters" (top 49) ["_law_script"] f fd)
    (D26 : Def K mg "_law_cell_at" (top 44) ["_law_script", "_law_k"] f26 fd26) (G26 : FnOk P w K mg base CX0 1 f26 fd26 ["_law_script", "_law_k"] (spCell K))
    (D28 : Def K mg "_law_value" (top 46) ["_law_cell", "_law_turn"] f28 fd28) (G28 : FnOk P w K mg base CX0 2 f28 fd28 ["_law_cell", "_law_turn"] spValue) :
    FnOk P w K mg base CX0 3 f fd ["_law_script"] (spLetters K) := by
  refine D.F.ok sc32 (fun vs H Q E h => ?_) (fun cdv A outer s H vs Q E hr h => ?_)
  · obtain ⟨a, ns, rfl, _⟩ := h; rfl
  · obtain ⟨a, ns, rfl, hS, kk⟩ := h
    refine ⟨_, pss_one (ps_ret (pe_ix ix_tup (pe_tup (pa_cons pe_str (pa_cons pe_str (pa_cons pe_str (pa_cons pe_str (pa_cons pe_str pa_nil))))))
      (pe_op op_mod (pe_call G28 hr (by rfl) D28.m D28.F.kp D28.b .nil pass0 (pa_cons (pe_call G26 (hr.mono (by decide)) (by rfl) D26.m D26.F.kp D26.b .nil pass0 (pa_cons (pv 0) (pa_cons pe_int pa_nil))) (pa_cons pe_int pa_nil))) pe_int) (fun _ _ => rfl))), ?_⟩
    refine ⟨by show 5 ≤ sizeLine; decide, fun p hp => ?_⟩
    have s1 : Same H (upd H p (.tup (five.map V.str))) := Same.upd hp
    refine ⟨_, rfl, a, ns, _, rfl, s1.seq hS, by decide, fun c => ?_⟩
    refine ⟨c, _, rfl, by decide, by decide, fun v H2 v0 s2 => ?_⟩
    refine ⟨_, _, rfl, rfl, (by show (0 : Int) < 5; decide), ?_⟩
    have hj : (v % 5).toNat < five.length := by show (v % 5).toNat < 5; omega
    have hL : LetOk (five[(v % 5).toNat]'hj) := letOk_of ((by decide +kernel : ∀ x ∈ five, letB x.cps.toList = true) _ (List.getElem_mem hj))
    refine ⟨p, five.map V.str, _, _, rfl, rfl, SqT.of (s2 _ _ upd_same), at_of (j := (v % 5).toNat) (v := .str (five[(v % 5).toNat]'hj)) (by omega) (by rw [List.getElem?_map, List.getElem?_eq_getElem hj]; rfl), ?_⟩
    exact kk _ _ hL (s1.trans s2)
/-! ### _law_copy -/
def spCopy : Sp := fun vs H Q _ => ∃ (v : V) (M : Mach), vs = [v] ∧ MAt H v M ∧ M.moves.length ≤ 10000 ∧ M.mids.length ≤ 10000 ∧ ∀ v' H', Same H H' → MAt H' v' M → Q v' H'
theorem sc33 : FnScope ["_law_machine_here", "_law_row"] ["_law_machine_here"] (defScope (top 50)) := ⟨rfl, rfl, rfl, by decide +kernel, rfl, by decide +kernel, by decide +kernel⟩
/-- rows copied so far -/
abbrev Cop (H : Hp) (D : Addr) (xss : List (List V)) (i : Nat) (H' : Hp) : Prop := Same H H' ∧ ∃ rs, H' D = some (.lst rs) ∧ Rows (msk H' [D]) rs (xss.take i)
theorem Cop.next {H H1 : Hp} {D : Addr} {xss : List (List V)} {i : Nat} {xs : List V} {l : Addr} (hD : H D = none) (h : Cop H D xss i H1) (hx : xss[i]? = some xs) (hl : H1 l = none) (hi : i ≤ 10000) :
    ∃ acc, (upd H1 l (.lst xs)) D = some (.lst acc) ∧ acc.length < sizeLine ∧ Cop H D xss (i + 1) (upd (upd H1 l (.lst xs)) D (.lst (acc ++ [.ref l]))) := by
  obtain ⟨s, rs, h1, h2⟩ := h
  have ne : D ≠ l := ne_of_none h1 hl
  have hlt : i < xss.length := (List.getElem?_eq_some_iff.mp hx).1
  have hrl : rs.length = i := by rw [h2.len, List.length_take]; omega
  refine ⟨rs, by rw [upd_ne ne]; exact h1, by rw [hrl]; exact sz_lt (by omega), Same.put (s.trans (Same.upd hl)) hD, rs ++ [.ref l], upd_same, ?_⟩
  rw [msk_upd (List.mem_singleton.mpr rfl), List.take_succ_eq_append_getElem hlt, (List.getElem?_eq_some_iff.mp hx).2]
  exact RowsM.snoc (h2.same (msk_same (Same.upd hl))) (fun q => ne (List.mem_singleton.mp q).symm) upd_same
theorem ok_copy {f : Addr} {fd : FuncData} (D : Def K mg "_law_copy" (top 50) ["_law_machine_here"] f fd) (T : BI mg) : FnOk P w K mg base CX0 1 f fd ["_law_machine_here"] spCopy := by
  refine D.F.ok sc33 (fun vs H Q E h => ?_) (fun cdv A outer s H vs Q E hr h => ?_)
  · obtain ⟨v, M, rfl, _⟩ := h; rfl
  · obtain ⟨v, M, rfl, ⟨a, pm, pe, pq, rs, qs, rfl, h1, h2, h3, h4, h5, h6⟩, hm1, hm2, k⟩ := h
    refine ⟨_, pss_one (ps_ret (pe_tup (pa_cons (pe_ix ix_tup (pv 0) pe_int (fun _ _ => rfl))
      (pa_cons (pe_lc (own := [("_law_row", 1)]) (g := gName 1) (by rfl) sc33.nd (pi_list (pe_ix ix_tup (pv 0) pe_int (fun _ _ => rfl)))
          (blkOk_by (own := [("_law_row", 1)]) (N := ["_law_machine_here", "_law_row"]) (sc := defScope (top 50)) (by decide +kernel))
          (fun _ _ _ _ _ => pg_name (i := 1) sc33.nd rfl (Or.inl rfl)) (fun _ _ _ _ _ => pts_nil)
          (fun _ _ _ _ _ => pe_callTy (call_listK K) (by rfl) T.list (by decide +kernel) (pa_cons (pv 1) pa_nil)))
      (pa_cons (pe_callTy (call_listK K) (by rfl) T.list (by decide +kernel) (pa_cons (pe_ix ix_tup (pv 0) pe_int (fun _ _ => rfl)) pa_nil))
      (pa_cons (pe_lc (own := [("_law_row", 1)]) (g := gName 1) (by rfl) sc33.nd (pi_list (pe_ix ix_tup (pv 0) pe_int (fun _ _ => rfl)))
          (blkOk_by (own := [("_law_row", 1)]) (N := ["_law_machine_here", "_law_row"]) (sc := defScope (top 50)) (by decide +kernel))
          (fun _ _ _ _ _ => pg_name (i := 1) sc33.nd rfl (Or.inl rfl)) (fun _ _ _ _ _ => pts_nil)
          (fun _ _ _ _ _ => pe_callTy (call_listK K) (by rfl) T.list (by decide +kernel) (pa_cons (pv 1) pa_nil))) pa_nil)))))), ?_⟩
    have hl3 : rs.length = M.moves.length := by rw [h3.len, List.length_map]
    have hl6 : qs.length = M.mids.length := by rw [h6.len, List.length_map]
    refine ⟨_, rfl, a, _, _, _, rfl, rfl, SqT.of h1, rfl, ?_⟩
    refine ⟨_, rfl, a, _, _, _, rfl, rfl, SqT.of h1, rfl, pm, rfl, ⟨_, SqL.of h2⟩, fun D1 hD1 => lc_list (K := K) (a := pm) (xs := rs) (fun i H' => Cop H D1 (M.moves.map vI) i H')
      ⟨Same.upd hD1, [], upd_same, .nil⟩ (fun i H' _ h => SqL.of (h.1 _ _ h2)) ?_ ?_⟩
    · rintro i v H1 hv h1'
      have hi : i < rs.length := (List.getElem?_eq_some_iff.mp hv).1
      obtain ⟨q, xs, rfl, hx, hq⟩ := h3.to hv
      refine ⟨rfl, yesT ?_⟩
      exact ⟨_, rfl, q, xs, rfl, .inl (SqL.of (h1'.1 _ _ hq)), fun l hl => Cop.next hD1 h1' hx hl (by omega)⟩
    rintro H1 ⟨s1, rs1, e1, R1⟩
    rw [List.take_of_length_le (by rw [List.length_map]; omega)] at R1
    have R1' := R1.same msk_le
    refine ⟨_, rfl, a, _, _, _, rfl, rfl, SqT.of (s1 _ _ h1), rfl, pe, _, rfl, .inl (SqL.of (s1 _ _ h4)), fun l2 hl2 => ?_⟩
    have s2 : Same H1 (upd H1 l2 (.lst (vB M.ends))) := Same.upd hl2
    have s02 := s1.trans s2
    refine ⟨_, rfl, a, _, _, _, rfl, rfl, SqT.of (s02 _ _ h1), rfl, pq, rfl, ⟨_, SqL.of (s02 _ _ h5)⟩, fun D3 hD3 => lc_list (K := K) (a := pq) (xs := qs) (fun i H' => Cop (upd H1 l2 (.lst (vB M.ends))) D3 (M.mids.map vB) i H')
      ⟨Same.upd hD3, [], upd_same, .nil⟩ (fun i H' _ h => SqL.of (h.1 _ _ (s02 _ _ h5))) ?_ ?_⟩
    · rintro i v H3 hv h1'
      have hi : i < qs.length := (List.getElem?_eq_some_iff.mp hv).1
      obtain ⟨q, xs, rfl, hx, hq⟩ := h6.to hv
      refine ⟨rfl, yesT ?_⟩
      exact ⟨_, rfl, q, xs, rfl, .inl (SqL.of (h1'.1 _ _ (s02 _ _ hq))), fun l hl => Cop.next hD3 h1' hx hl (by omega)⟩
    rintro H3 ⟨s3, rs3, e3, R3⟩
    rw [List.take_of_length_le (by rw [List.length_map]; omega)] at R3
    have R3' := R3.same msk_le
    have s03 := s02.trans s3
    refine ⟨by show 4 ≤ sizeLine; decide, fun p hp => ?_⟩
    have s4 : Same H3 (upd H3 p (.tup [.str M.letters, .ref D1, .ref l2, .ref D3])) := Same.upd hp
    refine k _ _ (s03.trans s4) ⟨p, D1, l2, D3, rs1, rs3, rfl, upd_same, s4 _ _ (s3 _ _ (s2 _ _ e1)), R1'.same (s2.trans (s3.trans s4)), s4 _ _ (s3 _ _ upd_same), s4 _ _ e3, R3'.same s4⟩
end
end Be

namespace Be
open PySem L2
/-- a number in range, as a natural one -/
theorem nat_mod (z : Int) {n : Nat} (h : 0 < n) : ∃ g : Nat, z % (n : Int) = (g : Int) ∧ g < n := by
  have h1 : 0 ≤ z % (n : Int) := Int.emod_nonneg _ (by omega)
  have h2 : z % (n : Int) < (n : Int) := Int.emod_lt_of_pos _ (by omega)
  exact ⟨(z % (n : Int)).toNat, by omega, by omega⟩
theorem pick3 {x y z kd : Int} (h0 : 0 ≤ kd) (h3 : kd < 3) (hx : 0 < x) (hy : 0 < y) (hz : 0 < z) : ∃ t : Int, atI [V.int x, V.int y, V.int z] kd = some (.int t) ∧ 0 < t := by
  have h : kd = 0 ∨ kd = 1 ∨ kd = 2 := by omega
  rcases h with rfl | rfl | rfl
  · exact ⟨x, rfl, hx⟩
  · exact ⟨y, rfl, hy⟩
  · exact ⟨z, rfl, hz⟩
/-- a row under way: numbers below n -/
abbrev RowW (H : Hp) (D : Addr) (n i : Nat) (H' : Hp) : Prop := Same H H' ∧ ∃ r : List Nat, H' D = some (.lst (vI r)) ∧ r.length = i ∧ ∀ g ∈ r, g < n
theorem RowW.next {H H1 : Hp} {D : Addr} {n i : Nat} {g : Nat} (hD : H D = none) (h : RowW H D n i H1) (hg : g < n) (hi : i ≤ 10000) :
    ∃ acc, H1 D = some (.lst acc) ∧ acc.length < sizeLine ∧ RowW H D n (i + 1) (upd H1 D (.lst (acc ++ [.int (g : Int)]))) := by
  obtain ⟨s, r, h1, h2, h3⟩ := h
  refine ⟨vI r, h1, by rw [List.length_map, h2]; exact sz_lt (by omega), Same.put s hD, r ++ [g], ?_, by simp [h2], ?_⟩
  · rw [upd_same]; simp [vI]
  · intro g' hg'
    rcases List.mem_append.mp hg' with q | q
    · exact h3 _ q
    · rw [List.mem_singleton.mp q]; exact hg
abbrev RowB (H : Hp) (D : Addr) (i : Nat) (H' : Hp) : Prop := Same H H' ∧ ∃ r : List Bool, H' D = some (.lst (vB r)) ∧ r.length = i
theorem RowB.next {H H1 : Hp} {D : Addr} {i : Nat} {b : Bool} (hD : H D = none) (h : RowB H D i H1) (hi : i ≤ 10000) :
    ∃ acc, H1 D = some (.lst acc) ∧ acc.length < sizeLine ∧ RowB H D (i + 1) (upd H1 D (.lst (acc ++ [.bl b]))) := by
  obtain ⟨s, r, h1, h2⟩ := h
  refine ⟨vB r, h1, by rw [List.length_map, h2]; exact sz_lt (by omega), Same.put s hD, r ++ [b], ?_, by simp [h2]⟩
  rw [upd_same]; simp [vB]
/-- the machine under way: i states done -/
def Bld (H : Hp) (pm pe pq : Addr) (k n i : Nat) (H' : Hp) : Prop :=
  ∃ (mv : List (List Nat)) (es : List Bool) (md : List (List Bool)) (rs qs : List V), Same H (msk H' [pm, pe, pq]) ∧ H' pm = some (.lst rs) ∧ H' pe = some (.lst (vB es)) ∧ H' pq = some (.lst qs) ∧
    Rows (msk H' [pm, pe, pq]) rs (mv.map vI) ∧ Rows (msk H' [pm, pe, pq]) qs (md.map vB) ∧ mv.length = i ∧ es.length = i ∧ md.length = i ∧ (∀ r ∈ mv, r.length = k * k ∧ ∀ g ∈ r, g < n) ∧ ∀ r ∈ md, r.length = k
section
variable {P : Program} {w : World} {K : PySem.W.Frag} {mg : Str → Option Value} {base : Heap}
def spMachine (K : PySem.W.Frag) : Sp := fun vs H Q _ => ∃ (a : Addr) (ns : List Int) (by_ : Int) (L : Str) (m : Int), vs = [.ref a, .int by_, .str L, .int m] ∧ SqL K H a (ns.map V.int) ∧ 0 ≤ by_ ∧ LetOk L ∧ 1 ≤ m ∧ m ≤ 40 ∧
  ∀ (M : Mach) (v : V) (H' : Hp), M.Ok → M.letters = L → (M.n : Int) ≤ m → Same H H' → MAt H' v M → Q v H'
abbrev NM : List Str := ["_law_script", "_law_by", "_law_letters_here", "_law_most", "_law_cell", "_law_states", "_law_many", "_law_kind", "_law_moves", "_law_ends_here", "_law_middles", "_law_state", "_law_number", "_law_row", "_law_spot", "_law_there", "_law_one"]
theorem sc31 : FnScope NM ["_law_script", "_law_by", "_law_letters_here", "_law_most"] (defScope (top 48)) := ⟨rfl, rfl, rfl, by decide +kernel, rfl, by decide +kernel, by decide +kernel⟩
set_option maxHeartbeats 2000000 in
theorem ok_machine {f f26 f28 : Addr} {fd fd26 fd28 : FuncData} (D : Def K mg "_law_machine" (top 48) ["_law_script", "_law_by", "_law_letters_here", "_law_most"] f fd) (T : BI mg)
    (D26 : Def K mg "_law_cell_at" (top 44) ["_law_script", "_law_k"] f26 fd26) (G26 : FnOk P w K mg base CX0 1 f26 fd26 ["_law_script", "_law_k"] (spCell K))
    (D28 : Def K mg "_law_value" (top 46) ["_law_cell", "_law_turn"] f28 fd28) (G28 : FnOk P w K mg base CX0 2 f28 fd28 ["_law_cell", "_law_turn"] spValue) :
    FnOk P w K mg base CX0 3 f fd ["_law_script", "_law_by", "_law_letters_here", "_law_most"] (spMachine K) := by
  refine D.F.ok sc31 (fun vs H Q E h => ?_) (fun cdv A outer s H vs Q E hr h => ?_)
  · obtain ⟨a, ns, by_, L, m, rfl, _⟩ := h; rfl
  · obtain ⟨a, ns, by_, L, m, rfl, hS, hby, hL, hm1, hm40, kk⟩ := h
    have hr1 : Room 1 _ := hr.mono (by decide)
    refine ⟨_, pss_cons (ps_set (i := 4) sc31.nd rfl (Or.inl rfl) (pe_call G26 hr1 (by rfl) D26.m D26.F.kp D26.b .nil pass0 (pa_cons (pv 0) (pa_cons (pv 1) pa_nil))))
      (pss_cons (ps_asg (pe_tup (pa_cons (pe_op op_add pe_int (pe_op op_mod (pe_call G28 hr (by rfl) D28.m D28.F.kp D28.b .nil pass0 (pa_cons (pv 4) (pa_cons pe_int pa_nil))) (pv 3)))
          (pa_cons (pe_callB call_len_str (by rfl) T.len PySem.boot_len (pa_cons (pv 2) pa_nil)) (pa_cons (pe_op op_mod (pe_call G28 hr (by rfl) D28.m D28.F.kp D28.b .nil pass0 (pa_cons (pv 4) (pa_cons pe_int pa_nil))) pe_int) pa_nil))))
        (pg_tup (by rfl) (pgs_cons (pg_name (i := 5) sc31.nd rfl (Or.inr rfl)) (pgs_cons (pg_name (i := 6) sc31.nd rfl (Or.inr rfl)) (pgs_cons (pg_name (i := 7) sc31.nd rfl (Or.inr rfl)) pgs_nil)))))
      (pss_cons (ps_par3 (by rfl) sc31.nd (i := 8) (j := 9) (k := 10) rfl rfl rfl (by decide) (by decide) (by decide) rfl rfl rfl (pa_cons (pe_lst pa_nil) (pa_cons (pe_lst pa_nil) (pa_cons (pe_lst pa_nil) pa_nil))) (by rfl))
      (pss_cons (ps_for PassesOwn.never rfl (pi_range1 (by rfl) T.range (pa_cons (pv 5) pa_nil)) (pg_name (i := 11) sc31.nd rfl (Or.inr rfl))
        (pss_cons (ps_set (i := 12) sc31.nd rfl (Or.inr rfl) (pe_call G28 hr (by rfl) D28.m D28.F.kp D28.b .nil pass0
          (pa_cons (pe_op op_add (pe_call G26 hr1 (by rfl) D26.m D26.F.kp D26.b .nil pass0 (pa_cons (pv 0) (pa_cons (pe_op op_add (pv 1) (pe_op op_mod (pv 11) pe_int)) pa_nil))) (pe_op op_mul pe_int (pv 11)))
          (pa_cons (pe_op op_add pe_int (pe_op op_mod (pv 11) pe_int)) pa_nil))))
        (pss_cons (ps_setLc (i := 13) (own := [("_law_spot", 14)]) (g := gName 14) (by rfl) sc31.nd rfl rfl (sw_true rfl rfl rfl (by decide +kernel)) (pi_range1 (by rfl) T.range (pa_cons (pe_op op_mul (pv 6) (pv 6)) pa_nil))
          (blkOk_by (own := [("_law_spot", 14)]) (N := NM) (sc := defScope (top 48)) (by decide +kernel)) (fun _ _ _ _ _ => pg_name (i := 14) sc31.nd rfl (Or.inl rfl)) (fun _ _ _ _ _ => pts_nil)
          (fun _ _ _ _ _ => pe_op op_mod (pe_op op_fdiv (pe_call G28 hr (by rfl) D28.m D28.F.kp D28.b .nil pass0 (pa_cons (pe_op op_add (pv 12) (pe_op op_mul pe_int (pv 14))) (pa_cons (pe_op op_add pe_int (pv 14)) pa_nil))) pe_int) (pv 5)))
        (pss_cons (ps_join (ps_if (pt_cmp (pc_eqI (pv 7) pe_int))
          (pss_one (ps_setLc (i := 13) (own := [("_law_spot", 14), ("_law_there", 15)]) (g := gTup K 2 (gCons (gName 14) (gCons (gName 15) gNil))) (by rfl) sc31.nd rfl rfl (sw_true rfl rfl rfl (by decide +kernel)) (pi_enum (by rfl) T.enumerate (pa_cons (pv 13) pa_nil))
            (blkOk_by (own := [("_law_spot", 14), ("_law_there", 15)]) (N := NM) (sc := defScope (top 48)) (by decide +kernel))
            (fun _ _ _ _ _ => pg_tup rfl (pgs_cons (pg_name (i := 14) sc31.nd rfl (Or.inl rfl)) (pgs_cons (pg_name (i := 15) sc31.nd rfl (Or.inl rfl)) pgs_nil))) (fun _ _ _ _ _ => pts_nil)
            (fun _ _ _ _ _ => pe_ifExp (pt_cmp (pc_eqI (pe_op op_mod (pv 14) (pe_op op_add (pv 6) pe_int)) pe_int)) (pe_op op_mod (pe_op op_add (pv 11) pe_int) (pv 5)) (pv 15)))) pss_nil))
        (pss_cons (ps_expr (pe_bm PySem.F.plainAttrs_list PySem.F.slot_list_append PySem.F.type_list_append mt_append (pv 8) (pa_cons (pv 13) pa_nil)))
        (pss_cons (ps_expr (pe_bm PySem.F.plainAttrs_list PySem.F.slot_list_append PySem.F.type_list_append mt_append (pv 9) (pa_cons (pe_cmp (pc_eqI (pe_op op_mod (pe_call G28 hr (by rfl) D28.m D28.F.kp D28.b .nil pass0 (pa_cons (pv 12) (pa_cons pe_int pa_nil)))
          (pe_ix ix_tup (pe_tup (pa_cons pe_int (pa_cons pe_int (pa_cons pe_int pa_nil)))) (pv 7) (fun _ _ => rfl))) pe_int) rfl) pa_nil)))
        (pss_one (ps_expr (pe_bm PySem.F.plainAttrs_list PySem.F.slot_list_append PySem.F.type_list_append mt_append (pv 10) (pa_cons
          (pe_lc (own := [("_law_one", 16)]) (g := gName 16) (by rfl) sc31.nd (pi_range1 (by rfl) T.range (pa_cons (pv 6) pa_nil))
            (blkOk_by (own := [("_law_one", 16)]) (N := NM) (sc := defScope (top 48)) (by decide +kernel)) (fun _ _ _ _ _ => pg_name (i := 16) sc31.nd rfl (Or.inl rfl)) (fun _ _ _ _ _ => pts_nil)
            (fun _ _ _ _ _ => pe_cmp (pc_eqI (pe_op op_mod (pe_call G28 hr (by rfl) D28.m D28.F.kp D28.b .nil pass0 (pa_cons (pe_op op_add (pv 12) (pv 16)) (pa_cons pe_int pa_nil)))
              (pe_ix (ix_tupK K) (pe_tup (pa_cons pe_int (pa_cons pe_int (pa_cons pe_int pa_nil)))) (pv 7) (fun _ _ => rfl))) pe_int) rfl)) pa_nil))))))))))
      (pss_one (ps_ret (pe_tup (pa_cons (pv 2) (pa_cons (pv 8) (pa_cons (pv 9) (pa_cons (pv 10) pa_nil)))))))))), ?_⟩
    -- cell
    refine ⟨_, rfl, _, rfl, a, ns, by_, rfl, hS, hby, fun c => ?_⟩
    -- states, many, kind
    have hz : L.length ≤ sizeLine := sz_le (by have := hL.k3; show L.cps.size ≤ _; omega)
    have k1 := hL.k1
    have k3 := hL.k3
    refine ⟨_, rfl, c, 1, rfl, by decide, by decide, fun v1 H1 v10 s1 => ?_⟩
    refine ⟨_, rfl, _, _, rfl, rfl, (by show 0 < m; omega), _, _, rfl, rfl, ?_⟩
    obtain ⟨n, hn, hn1, hnm⟩ : ∃ n : Nat, 1 + v1 % m = (n : Int) ∧ 1 ≤ n ∧ (n : Int) ≤ m := by
      have h1 : 0 ≤ v1 % m := Int.emod_nonneg _ (by omega)
      have h2 : v1 % m < m := Int.emod_lt_of_pos _ (by omega)
      exact ⟨(1 + v1 % m).toNat, by omega, by omega, by omega⟩
    dsimp only
    rw [hn]
    refine ⟨_, rfl, L, rfl, hz, ?_⟩
    refine ⟨_, rfl, c, 2, rfl, by decide, by decide, fun v2 H2 v20 s2 => ?_⟩
    refine ⟨_, _, rfl, rfl, (by show (0 : Int) < 3; decide), ?_⟩
    have kd0 : 0 ≤ v2 % 3 := Int.emod_nonneg _ (by decide)
    have kd3 : v2 % 3 < 3 := Int.emod_lt_of_pos _ (by decide)
    dsimp only
    generalize v2 % 3 = kd at kd0 kd3 ⊢
    refine ⟨by show 3 ≤ sizeLine; decide, fun p hp => ?_⟩
    refine ⟨p, _, rfl, SqT.of upd_same, rfl, _, _, rfl, _, _, rfl, _, _, rfl, rfl, ?_⟩
    -- moves, ends, middles
    have sb : Same H (upd H2 p (.tup [.int (n : Int), .int (L.length : Int), .int kd])) := (s1.trans s2).trans (Same.upd hp)
    generalize hHb : upd H2 p (.tup [.int (n : Int), .int (L.length : Int), .int kd]) = Hb at sb
    refine ⟨by show 0 ≤ sizeLine; decide, fun pm hpm => ⟨by show 0 ≤ sizeLine; decide, fun pe hpe => ⟨by show 0 ≤ sizeLine; decide, fun pq hpq => ⟨_, _, _, rfl, ?_⟩⟩⟩⟩
    have npe : pe ≠ pm := (ne_of_none (upd_same : (upd Hb pm (.lst [])) pm = some (.lst [])) hpe).symm
    have hpe' : Hb pe = none := (Same.upd hpm : Same Hb (upd Hb pm (.lst []))).free hpe
    have npq1 : pq ≠ pe := (ne_of_none (upd_same : (upd (upd Hb pm (.lst [])) pe (.lst [])) pe = some (.lst [])) hpq).symm
    have npq2 : pq ≠ pm := (ne_of_none (show (upd (upd Hb pm (.lst [])) pe (.lst [])) pm = some (.lst []) by rw [upd_ne npe.symm]; exact upd_same) hpq).symm
    have hpq' : Hb pq = none := ((Same.upd hpm).trans (Same.upd hpe) : Same Hb (upd (upd Hb pm (.lst [])) pe (.lst []))).free hpq
    have mpm : pm ∈ [pm, pe, pq] := by simp
    have mpe : pe ∈ [pm, pe, pq] := by simp
    have mpq : pq ∈ [pm, pe, pq] := by simp
    have tn : ((n : Int)).toNat = n := Int.toNat_natCast n
    refine ⟨_, rfl, (n : Int), rfl, by omega, by omega, for_range (lo := 0) (n := ((n : Int)).toNat) (fun i σ H' => ∃ o1 o2 o3, σ = [some (.ref a), some (.int by_), some (.str L), some (.int m), some (.int c), some (.int (n : Int)), some (.int (L.cps.size : Nat)), some (.int kd), some (.ref pm), some (.ref pe), some (.ref pq), o1, o2, o3, none, none, none] ∧ Bld Hb pm pe pq L.cps.size n i H')
      ⟨none, none, none, rfl, [], [], [], [], [], ?_, ?_, ?_, upd_same, .nil, .nil, rfl, rfl, rfl, by simp, by simp⟩ ?_ ?_⟩
    · rw [msk_upd mpq, msk_upd mpe, msk_upd mpm]
      exact msk_free fun b hb => by
        have e : b = pm ∨ b = pe ∨ b = pq := by simpa using hb
        rcases e with rfl | rfl | rfl
        · exact hpm
        · exact hpe'
        · exact hpq'
    · rw [upd_ne npq2.symm, upd_ne npe.symm]; exact upd_same
    · rw [upd_ne npq1.symm]; exact upd_same
    · -- one state
      rintro i σ H1 hi ⟨o1, o2, o3, rfl, mv, es, md, rs, qs, hb, e1, e2, e3, R1, R2, l1, l2, l3, w1, w2⟩
      rw [tn] at hi
      have hS1 : SqL K H1 a (ns.map V.int) := (sb.trans (hb.trans msk_le)).seq hS
      refine ⟨_, rfl, _, rfl, _, rfl, _, _, rfl, rfl, (by show (0 : Int) < 3; decide), _, _, rfl, rfl, a, ns, _, rfl, hS1, (by omega), fun c2 => ?_⟩
      refine ⟨_, rfl, _, _, rfl, rfl, .inl ⟨by decide, by decide⟩, _, _, rfl, rfl, ?_⟩
      refine ⟨_, rfl, _, _, rfl, rfl, (by show (0 : Int) < 5; decide), _, _, rfl, rfl, ?_⟩
      refine ⟨_, _, rfl, (by omega), (by omega), fun num H2 num0 s2 => ?_⟩
      -- the row
      have kk9 : L.cps.size * L.cps.size ≤ 9 := Nat.mul_le_mul k3 k3
      have kke : ((L.cps.size : Nat) : Int) * ((L.cps.size : Nat) : Int) = ((L.cps.size * L.cps.size : Nat) : Int) := (Int.natCast_mul _ _).symm
      have tkk : (((L.cps.size : Nat) : Int) * ((L.cps.size : Nat) : Int)).toNat = L.cps.size * L.cps.size := by rw [kke]; exact Int.toNat_natCast _
      refine ⟨_, rfl, _, rfl, _, _, rfl, rfl, .inl ⟨by omega, by omega⟩, ((L.cps.size : Nat) : Int) * ((L.cps.size : Nat) : Int), rfl, by rw [kke]; omega, by rw [kke]; omega, fun D1 hD1 => lc_range (lo := 0) (n := (((L.cps.size : Nat) : Int) * ((L.cps.size : Nat) : Int)).toNat) (fun j Hx => RowW H2 D1 n j Hx)
        ⟨Same.upd hD1, [], upd_same, rfl, by simp⟩ ?_ ?_⟩
      · intro j Hx hj hx
        rw [tkk] at hj
        refine ⟨rfl, yesT ?_⟩
        refine ⟨_, rfl, _, rfl, _, _, rfl, rfl, .inl ⟨by decide, by decide⟩, _, _, rfl, rfl, _, rfl, _, _, rfl, rfl, _, _, rfl, (by omega), (by omega), fun v H5 v0 s5 => ?_⟩
        refine ⟨_, _, rfl, rfl, ⟨by decide, by decide⟩, _, rfl, _, _, rfl, rfl, (by show (0 : Int) < (n : Int); omega), ?_⟩
        obtain ⟨g, eg, hg⟩ := nat_mod (v / 3) (show 0 < n by omega)
        dsimp only
        rw [eg]
        obtain ⟨hx1, r, hx2, hx3⟩ := hx
        exact RowW.next hD1 ⟨hx1.trans s5, r, s5 _ _ hx2, hx3⟩ hg (by omega)
      rintro Hx ⟨sx, r, hr1', hrl, hrg⟩
      rw [tkk] at hrl
      -- if kind == 1
      refine ⟨fun σ' H' => ∃ (Dr : Addr) (r : List Nat), σ' = [some (.ref a), some (.int by_), some (.str L), some (.int m), some (.int c), some (.int (n : Int)), some (.int (L.cps.size : Nat)), some (.int kd), some (.ref pm), some (.ref pe), some (.ref pq), some (.int (0 + (i : Int))), some (.int num), some (.ref Dr), none, none, none] ∧
        Same H2 H' ∧ H2 Dr = none ∧ H' Dr = some (.lst (vI r)) ∧ r.length = L.cps.size * L.cps.size ∧ ∀ g ∈ r, g < n, ?_, ?_⟩
      · refine ⟨_, rfl, _, _, rfl, rfl, _, rfl, ite2D (fun hc => ?_) (fun hc => ?_)⟩
        · refine ⟨_, rfl, D1, _, rfl, SqL.of hr1', fun D2 hD2 => lc_it (J := Ite K D1) (n := L.cps.size * L.cps.size) (fun j Hz => RowW Hx D2 n j Hz)
            ⟨Same.upd hD2, [], upd_same, rfl, by simp⟩ (fun j Hz hj hp => ?_) (fun Hz hp => ⟨_, SqL.of (hp.1 _ _ hr1'), by rw [List.length_map, hrl]; exact Nat.le_refl _⟩) ?_ ?_⟩
          · have hj' : j < (vI r).length := by rw [List.length_map, hrl]; exact hj
            exact ⟨_, _, SqL.of (hp.1 _ _ hr1'), List.getElem?_eq_getElem hj'⟩
          · rintro j v Hz Hz' hj hp ⟨Tp, x, rfl, hT, rfl, hx⟩
            have hj' : j < r.length := by rw [hrl]; exact hj
            have hx' := hx _ (SqL.of (hp.1 _ _ hr1'))
            rw [List.getElem?_map, List.getElem?_eq_getElem hj'] at hx'
            cases Option.some.inj hx'
            have hg0 := hrg _ (List.getElem_mem hj')
            have nDT : D2 ≠ Tp := by obtain ⟨_, r2, q, _⟩ := hp; exact ne_of_none q hT
            have hp' : RowW Hx D2 n j (upd Hz Tp (.tup [.int (j : Nat), .int ((r[j] : Nat) : Int)])) := by
              obtain ⟨q1, r2, q2, q3⟩ := hp
              exact ⟨q1.trans (Same.upd hT), r2, by rw [upd_ne nDT]; exact q2, q3⟩
            refine ⟨Tp, _, rfl, SqT.of upd_same, rfl, _, _, rfl, _, _, rfl, rfl, rfl, yesT ?_⟩
            refine ⟨_, rfl, _, rfl, _, _, rfl, rfl, _, _, rfl, rfl, (by show (0 : Int) < ((L.cps.size : Nat) : Int) + 1; omega), _, _, rfl, rfl, _, rfl, ite2D (fun _ => ?_) (fun _ => ?_)⟩
            · refine ⟨_, rfl, _, _, rfl, rfl, _, rfl, _, _, rfl, rfl, (by show (0 : Int) < (n : Int); omega), ?_⟩
              obtain ⟨g, eg, hg⟩ := nat_mod (0 + (i : Int) + 1) (show 0 < n by omega)
              dsimp only
              rw [eg]
              exact RowW.next hD2 hp' hg (by omega)
            · refine ⟨_, rfl, ?_⟩
              exact RowW.next hD2 hp' hg0 (by omega)
          · rintro Hz ⟨sz, r2, q2, q3, q4⟩
            exact ⟨D2, r2, rfl, sx.trans sz, sx.free hD2, q2, q3, q4⟩
        · exact ⟨D1, r, rfl, sx, hD1, hr1', hrl, hrg⟩
      clear sx r hr1' hrl hrg hD1 D1 Hx
      rintro σ' Hx ⟨Dr, r, rfl, sx, hDr0, hDr, hrl, hrg⟩
      have s1x : Same H1 Hx := s2.trans sx
      have nDr : Dr ∉ [pm, pe, pq] := by
        intro q
        have e : Dr = pm ∨ Dr = pe ∨ Dr = pq := by simpa using q
        rcases e with rfl | rfl | rfl
        · rw [s2 _ _ e1] at hDr0; cases hDr0
        · rw [s2 _ _ e2] at hDr0; cases hDr0
        · rw [s2 _ _ e3] at hDr0; cases hDr0
      have hrs : rs.length = i := by rw [R1.len, List.length_map]; exact l1
      have hqs : qs.length = i := by rw [R2.len, List.length_map]; exact l3
      -- moves.append(row)
      refine ⟨_, rfl, .inl ⟨rfl, _, SqL.of (s1x _ _ e1)⟩, _, rfl, pm, _, _, rfl, rfl, s1x _ _ e1, by rw [hrs]; exact sz_lt (by omega), ?_⟩
      have R1x : Rows (msk (upd Hx pm (.lst (rs ++ [.ref Dr]))) [pm, pe, pq]) (rs ++ [.ref Dr]) ((mv ++ [r]).map vI) := by
        rw [msk_upd mpm, List.map_append]
        exact RowsM.snoc (R1.same (msk_same s1x)) nDr hDr
      have R2x : Rows (msk (upd Hx pm (.lst (rs ++ [.ref Dr]))) [pm, pe, pq]) qs (md.map vB) := by
        rw [msk_upd mpm]
        exact R2.same (msk_same s1x)
      have hbx : Same Hb (msk (upd Hx pm (.lst (rs ++ [.ref Dr]))) [pm, pe, pq]) := by
        rw [msk_upd mpm]
        exact hb.trans (msk_same s1x)
      have f1 : (upd Hx pm (.lst (rs ++ [.ref Dr]))) pm = some (.lst (rs ++ [.ref Dr])) := upd_same
      have f2 : (upd Hx pm (.lst (rs ++ [.ref Dr]))) pe = some (.lst (vB es)) := by rw [upd_ne npe]; exact s1x _ _ e2
      have f3 : (upd Hx pm (.lst (rs ++ [.ref Dr]))) pq = some (.lst qs) := by rw [upd_ne npq2]; exact s1x _ _ e3
      generalize upd Hx pm (.lst (rs ++ [.ref Dr])) = H4 at R1x R2x hbx f1 f2 f3 ⊢
      -- ends.append(..)
      refine ⟨_, rfl, .inl ⟨rfl, _, SqL.of f2⟩, _, rfl, _, _, rfl, by decide, by decide, fun v3 H5 v30 s5 => ?_⟩
      refine ⟨by show 3 ≤ sizeLine; decide, fun p3 hp3 => ?_⟩
      obtain ⟨t3, at3, t30⟩ := pick3 (x := 2) (y := 2) (z := 5) kd0 kd3 (by decide) (by decide) (by decide)
      refine ⟨_, rfl, p3, _, _, _, rfl, rfl, SqT.of upd_same, at3, _, _, rfl, rfl, t30, _, _, rfl, rfl, ?_⟩
      have s6 : Same H4 (upd H5 p3 (.tup [.int 2, .int 2, .int 5])) := s5.trans (Same.upd hp3)
      refine ⟨pe, _, _, rfl, rfl, s6 _ _ f2, by rw [List.length_map, l2]; exact sz_lt (by omega), ?_⟩
      generalize hbb : decide (v3 % t3 = 0) = bb
      have f2e : vB es ++ [V.bl bb] = vB (es ++ [bb]) := by simp [vB]
      dsimp only
      rw [hbb, f2e]
      have R1y : Rows (msk (upd (upd H5 p3 (.tup [.int 2, .int 2, .int 5])) pe (.lst (vB (es ++ [bb])))) [pm, pe, pq]) (rs ++ [.ref Dr]) ((mv ++ [r]).map vI) := by
        rw [msk_upd mpe]; exact R1x.same (msk_same s6)
      have R2y : Rows (msk (upd (upd H5 p3 (.tup [.int 2, .int 2, .int 5])) pe (.lst (vB (es ++ [bb])))) [pm, pe, pq]) qs (md.map vB) := by
        rw [msk_upd mpe]; exact R2x.same (msk_same s6)
      have hby' : Same Hb (msk (upd (upd H5 p3 (.tup [.int 2, .int 2, .int 5])) pe (.lst (vB (es ++ [bb])))) [pm, pe, pq]) := by
        rw [msk_upd mpe]; exact hbx.trans (msk_same s6)
      have g1 : (upd (upd H5 p3 (.tup [.int 2, .int 2, .int 5])) pe (.lst (vB (es ++ [bb])))) pm = some (.lst (rs ++ [.ref Dr])) := by rw [upd_ne npe.symm]; exact s6 _ _ f1
      have g2 : (upd (upd H5 p3 (.tup [.int 2, .int 2, .int 5])) pe (.lst (vB (es ++ [bb])))) pe = some (.lst (vB (es ++ [bb]))) := upd_same
      have g3 : (upd (upd H5 p3 (.tup [.int 2, .int 2, .int 5])) pe (.lst (vB (es ++ [bb])))) pq = some (.lst qs) := by rw [upd_ne npq1]; exact s6 _ _ f3
      generalize upd (upd H5 p3 (.tup [.int 2, .int 2, .int 5])) pe (.lst (vB (es ++ [bb]))) = H7 at R1y R2y hby' g1 g2 g3 ⊢
      -- middles.append([..])
      have tk : (((L.cps.size : Nat) : Int)).toNat = L.cps.size := Int.toNat_natCast _
      refine ⟨_, rfl, .inl ⟨rfl, _, SqL.of g3⟩, _, rfl, ((L.cps.size : Nat) : Int), rfl, by omega, by omega, fun Dm hDm => lc_range (lo := 0) (n := (((L.cps.size : Nat) : Int)).toNat) (fun j Hz => RowB H7 Dm j Hz)
        ⟨Same.upd hDm, [], upd_same, rfl⟩ ?_ ?_⟩
      · intro j Hz hj hz'
        rw [tk] at hj
        refine ⟨rfl, yesT ?_⟩
        refine ⟨_, rfl, _, rfl, _, _, rfl, rfl, _, _, rfl, by decide, by decide, fun v H8 v0 s8 => ?_⟩
        refine ⟨by show 3 ≤ sizeLine; decide, fun p8 hp8 => ?_⟩
        obtain ⟨t8, at8, t80⟩ := pick3 (x := 2) (y := 3) (z := 5) kd0 kd3 (by decide) (by decide) (by decide)
        refine ⟨_, rfl, p8, _, _, _, rfl, rfl, SqT.of upd_same, at8, _, _, rfl, rfl, t80, _, _, rfl, rfl, ?_⟩
        obtain ⟨q1, r2, q2, q3⟩ := hz'
        have s88 : Same Hz (upd H8 p8 (.tup [.int 2, .int 3, .int 5])) := s8.trans (Same.upd hp8)
        exact RowB.next hDm ⟨q1.trans s88, r2, s88 _ _ q2, q3⟩ (by omega)
      rintro H8 ⟨s8, bs, e8, hbl⟩
      rw [tk] at hbl
      have nDm : Dm ∉ [pm, pe, pq] := by
        intro q
        have e : Dm = pm ∨ Dm = pe ∨ Dm = pq := by simpa using q
        rcases e with rfl | rfl | rfl
        · rw [g1] at hDm; cases hDm
        · rw [g2] at hDm; cases hDm
        · rw [g3] at hDm; cases hDm
      refine ⟨pq, _, _, rfl, rfl, s8 _ _ g3, by rw [hqs]; exact sz_lt (by omega), ?_⟩
      refine ⟨_, _, _, rfl, mv ++ [r], es ++ [bb], md ++ [bs], rs ++ [.ref Dr], qs ++ [.ref Dm], ?_, ?_, ?_, upd_same, ?_, ?_, by simp [l1], by simp [l2], by simp [l3], ?_, ?_⟩
      · rw [msk_upd mpq]; exact hby'.trans (msk_same s8)
      · rw [upd_ne npq2.symm]; exact s8 _ _ g1
      · rw [upd_ne npq1.symm]; exact s8 _ _ g2
      · rw [msk_upd mpq]; exact R1y.same (msk_same s8)
      · rw [msk_upd mpq, List.map_append]
        exact RowsM.snoc (R2y.same (msk_same s8)) nDm e8
      · intro r' hr'
        rcases List.mem_append.mp hr' with q | q
        · exact w1 _ q
        · rw [List.mem_singleton.mp q]; exact ⟨hrl, hrg⟩
      · intro r' hr'
        rcases List.mem_append.mp hr' with q | q
        · exact w2 _ q
        · rw [List.mem_singleton.mp q]; exact hbl
    · -- return
      rintro σ H1 ⟨o1, o2, o3, rfl, mv, es, md, rs, qs, hb, e1, e2, e3, R1, R2, l1, l2, l3, w1, w2⟩
      rw [tn] at l1 l2 l3
      refine ⟨_, rfl, _, rfl, _, rfl, _, rfl, by show 4 ≤ sizeLine; decide, fun pt hpt => ?_⟩
      have st : Same H1 (upd H1 pt (.tup [.str L, .ref pm, .ref pe, .ref pq])) := Same.upd hpt
      refine kk ⟨L, mv, es, md⟩ _ _ ⟨hL, by show 1 ≤ mv.length; omega, by show mv.length ≤ 40; omega, fun r hr' => ?_, by show es.length = mv.length; omega, by show md.length = mv.length; omega, w2⟩ rfl (by show ((mv.length : Nat) : Int) ≤ m; omega) ((sb.trans (hb.trans msk_le)).trans st)
        ⟨pt, pm, pe, pq, rs, qs, rfl, upd_same, st _ _ e1, (R1.same msk_le).same st, st _ _ e2, st _ _ e3, (R2.same msk_le).same st⟩
      obtain ⟨q1, q2⟩ := w1 r hr'
      exact ⟨q1, fun g hg => by have := q2 g hg; show g < mv.length; omega⟩
end
end Be

namespace Be
open PySem L2
/-! ### reading from a state on -/
def Mach.hasAt (M : Mach) (q : Nat) (w : List Nat) : Bool :=
  let q' := M.run q ((w.zip w.reverse).take (w.length / 2))
  if w.length % 2 = 0 then M.fin q' else M.mid q' (w.getD (w.length / 2) 0)
theorem take_zip' {α β : Type} : ∀ (n : Nat) (l : List α) (r : List β), (l.zip r).take n = (l.take n).zip (r.take n)
  | 0, _, _ => by simp
  | n + 1, [], _ => by simp
  | n + 1, _ :: _, [] => by simp
  | n + 1, a :: l, b :: r => by simp [take_zip' n l r]
theorem Mach.has_at (M : Mach) (w : List Nat) : M.has w = M.hasAt 0 w := by
  unfold Mach.has Mach.hasAt Mach.bhd
  have e : (w.drop (w.length - w.length / 2)).reverse = w.reverse.take (w.length / 2) := by
    rw [List.take_reverse]
  rw [e, ← take_zip']
theorem at_neg1 {α : Type} {l : List α} (h : 0 < l.length) : atI l (-1) = l[l.length - 1]? := by
  unfold atI ixN
  rw [if_neg (by omega), if_pos (by omega)]
  show l[((-1 : Int) + (l.length : Int)).toNat]? = _
  congr 1
  omega
theorem str_ext {x y : Str} (h : x.cps.toList = y.cps.toList) : x = y := by
  cases x; cases y
  congr 1
  exact Array.toList_inj.mp h
theorem app_list (x y : Str) : (x ++ y).cps.toList = x.cps.toList ++ y.cps.toList := by
  show (x.cps ++ y.cps).toList = _
  simp
theorem cut_in {z : Str} (h : 2 ≤ z.cps.size) : (cutS z (some 1) (some (-1))).cps.toList = (z.cps.toList.drop 1).take (z.cps.size - 2) := by
  show (((z.cps.toList.drop (HT.sIx z.length 0 (some 1))).take (HT.sIx z.length z.length (some (-1)) - HT.sIx z.length 0 (some 1))).toArray).toList = _
  have e1 : HT.sIx z.length 0 (some 1) = 1 := by
    have := HT.sIx_nat z.length 0 1
    have h2 : z.length = z.cps.size := rfl
    rw [show ((1 : Nat) : Int) = (1 : Int) from rfl] at this
    rw [this, h2]; omega
  have e2 : HT.sIx z.length z.length (some (-1)) = z.cps.size - 1 := by
    show (if (-1 : Int) < 0 then ((-1 : Int) + ((z.cps.size : Nat) : Int)).toNat else min (-1 : Int).toNat z.cps.size) = _
    rw [if_pos (by decide)]; omega
  rw [e1, e2, List.toList_toArray]
  congr 1
/-- the part of w that is left after j pairs -/
def rest_ (w : List Nat) (j : Nat) : List Nat := (w.drop j).take (w.length - 2 * j)
theorem rest_len {w : List Nat} {j : Nat} (h : 2 * j ≤ w.length) : (rest_ w j).length = w.length - 2 * j := by
  unfold rest_; rw [List.length_take, List.length_drop]; omega
theorem rest_get {w : List Nat} {j i : Nat} (h : i < w.length - 2 * j) : (rest_ w j)[i]? = w[j + i]? := by
  unfold rest_; rw [List.getElem?_take_of_lt h, List.getElem?_drop]
theorem rest_next {w : List Nat} {j : Nat} (h : 2 * (j + 1) ≤ w.length) : ((rest_ w j).drop 1).take (w.length - 2 * j - 2) = rest_ w (j + 1) := by
  unfold rest_
  rw [List.drop_take, List.take_take, List.drop_drop]
  congr 1
  omega
section
variable {P : Program} {w : World} {K : PySem.W.Frag} {mg : Str → Option Value} {base : Heap}
/-! ### _law_has -/
def spLHas : Sp := fun vs H Q _ => ∃ (v : V) (M : Mach) (x : Str) (q : Nat), vs = [v, .str x, .int (q : Int)] ∧ MAt H v M ∧ M.Ok ∧ Over M.letters x ∧ x.cps.size ≤ 10000 ∧ q < M.n ∧ Q (.bl (M.hasAt q x.cps.toList)) H
abbrev NH : List Str := ["_law_machine_here", "_law_word", "_law_state", "_law_letters_here", "_law_moves", "_law_ends_here", "_law_middles", "_law_first", "_law_last"]
theorem sc34 : FnScope NH ["_law_machine_here", "_law_word", "_law_state"] (defScope (top 51)) := ⟨rfl, rfl, rfl, by decide +kernel, rfl, by decide +kernel, by decide +kernel⟩
set_option maxHeartbeats 1000000 in
theorem ok_lhas {f : Addr} {fd : FuncData} (D : Def K mg "_law_has" (top 51) ["_law_machine_here", "_law_word", "_law_state"] f fd) (T : BI mg) : FnOk P w K mg base CX0 1 f fd ["_law_machine_here", "_law_word", "_law_state"] spLHas := by
  refine D.F.ok sc34 (fun vs H Q E h => ?_) (fun cdv A outer s H vs Q E hr h => ?_)
  · obtain ⟨v, M, x, q, rfl, _⟩ := h; rfl
  · obtain ⟨v, M, x, q0, rfl, ⟨a, pm, pe, pq, rs, qs, rfl, h1, h2, h3, h4, h5, h6⟩, ok, ho, hl, hq0, k⟩ := h
    refine ⟨_, pss_cons (ps_asg (pv 0) (pg_tup (by rfl) (pgs_cons (pg_name (i := 3) sc34.nd rfl (Or.inl rfl)) (pgs_cons (pg_name (i := 4) sc34.nd rfl (Or.inl rfl)) (pgs_cons (pg_name (i := 5) sc34.nd rfl (Or.inl rfl)) (pgs_cons (pg_name (i := 6) sc34.nd rfl (Or.inl rfl)) pgs_nil))))))
      (pss_cons (ps_while PassesOwn.never (pt_cmp (pc_gt (pe_callB call_len_str (by rfl) T.len PySem.boot_len (pa_cons (pv 1) pa_nil)) pe_int))
        (pss_cons (ps_set (i := 7) sc34.nd rfl (Or.inl rfl) (pe_sindex (pv 3) (pe_ix ix_str (pv 1) pe_int (fun _ _ => rfl))))
        (pss_cons (ps_set (i := 8) sc34.nd rfl (Or.inl rfl) (pe_sindex (pv 3) (pe_ix ix_str (pv 1) (pe_un un_neg pe_int) (fun _ _ => rfl))))
        (pss_cons (ps_set (i := 2) sc34.nd rfl (Or.inl rfl) (pe_ix ix_list (pe_ix ix_list (pv 4) (pv 2) (fun _ _ => rfl)) (pe_op op_add (pe_op op_mul (pv 7) (pe_callB call_len_str (by rfl) T.len PySem.boot_len (pa_cons (pv 3) pa_nil))) (pv 8)) (fun _ _ => rfl)))
        (pss_one (ps_set (i := 1) sc34.nd rfl (Or.inl rfl) (pe_slice sl_str (pv 1) (po_some pe_int) (po_some (pe_un un_neg pe_int)))))))))
      (pss_one (ps_ret (pe_ifExp (pt_cmpR op_eq (pv 1) pe_str (nomark _)) (pe_ix ix_list (pv 5) (pv 2) (fun _ _ => rfl)) (pe_ix ix_list (pe_ix ix_list (pv 6) (pv 2) (fun _ _ => rfl)) (pe_sindex (pv 3) (pv 1)) (fun _ _ => rfl)))))), ?_⟩
    refine ⟨_, rfl, a, _, rfl, SqT.of h1, rfl, _, _, rfl, _, _, rfl, _, _, rfl, _, _, rfl, rfl, ?_⟩
    have el : x.cps.toList.length = x.cps.size := Array.length_toList
    have hk3 : M.letters.cps.size ≤ 3 := ok.let_.k3
    have hlq : ∀ j, M.run q0 ((x.cps.toList.zip x.cps.toList.reverse).take j) < M.n := fun j => Mach.run_lt ok _ _ hq0 fun p hp => by
      obtain ⟨q1, q2⟩ := List.of_mem_zip (List.mem_of_mem_take hp)
      exact ⟨ho _ q1, ho _ (List.mem_reverse.mp q2)⟩
    refine ⟨fun m σ H' => ∃ (j : Nat) (y : Str) (o1 o2 : Option V), 2 * j ≤ x.cps.size ∧ m = x.cps.size - j ∧ y.cps.toList = rest_ x.cps.toList j ∧ H' = H ∧
      σ = [some (.ref a), some (.str y), some (.int (M.run q0 ((x.cps.toList.zip x.cps.toList.reverse).take j) : Nat)), some (.str M.letters), some (.ref pm), some (.ref pe), some (.ref pq), o1, o2],
      ⟨_, 0, x, none, none, by omega, rfl, by unfold rest_; rw [Nat.mul_zero, Nat.sub_zero, List.drop_zero, List.take_of_length_le (Nat.le_refl _)], rfl, rfl⟩, ?_⟩
    rintro m σ H' ⟨j, y, o1, o2, hj, rfl, hy, rfl, rfl⟩
    have hyl : y.cps.size = x.cps.size - 2 * j := by
      have := congrArg List.length hy
      rw [rest_len (by rw [el]; exact hj), el] at this
      simpa using this
    have hzy : y.length ≤ sizeLine := sz_le (by show y.cps.size ≤ _; omega)
    refine ⟨_, rfl, y, rfl, hzy, _, _, rfl, rfl, _, rfl, ite2D (fun hc => ?_) (fun hc => ?_)⟩
    · -- one pair
      have hc' : 1 < ((y.cps.size : Nat) : Int) := hc
      have hlt : 2 * (j + 1) ≤ x.cps.size := by omega
      have hj1 : j < x.cps.toList.length := by rw [el]; omega
      have hj2 : x.cps.toList.length - 1 - j < x.cps.toList.length := by rw [el]; omega
      have c1 : y.cps.toList[0]? = some (x.cps.toList[j]'hj1) := by
        rw [hy, rest_get (by rw [el]; omega), Nat.add_zero]; exact List.getElem?_eq_getElem hj1
      have c2 : atI y.cps.toList (-1) = some (x.cps.toList[x.cps.toList.length - 1 - j]'hj2) := by
        rw [at_neg1 (by rw [Array.length_toList]; omega), Array.length_toList, hyl, hy, rest_get (by rw [el]; omega)]
        rw [← List.getElem?_eq_getElem hj2]
        congr 1
        rw [el]; omega
      have m1 : x.cps.toList[j]'hj1 ∈ M.L := ho _ (List.getElem_mem hj1)
      have m2 : x.cps.toList[x.cps.toList.length - 1 - j]'hj2 ∈ M.L := ho _ (List.getElem_mem hj2)
      have hz : (x.cps.toList.zip x.cps.toList.reverse)[j]? = some (x.cps.toList[j]'hj1, x.cps.toList[x.cps.toList.length - 1 - j]'hj2) := by
        rw [List.getElem?_zip_eq_some]
        refine ⟨List.getElem?_eq_getElem hj1, ?_⟩
        rw [List.getElem?_reverse hj1]
        exact List.getElem?_eq_getElem hj2
      generalize x.cps.toList[j]'hj1 = c at c1 m1 hz
      generalize x.cps.toList[x.cps.toList.length - 1 - j]'hj2 = d at c2 m2 hz
      obtain ⟨row, er, ec, _⟩ := Mach.cell ok (hlq j) m1 m2
      have er' : (M.moves.map vI)[M.run q0 ((x.cps.toList.zip x.cps.toList.reverse).take j)]? = some (vI row) := by rw [List.getElem?_map, er]; rfl
      obtain ⟨p, hp, hpl⟩ := h3.at er'
      refine ⟨fun σ' H'' => ∃ (y : Str) (o1 o2 : Option V), y.cps.toList = rest_ x.cps.toList (j + 1) ∧ H'' = H' ∧
        σ' = [some (.ref a), some (.str y), some (.int (M.run q0 ((x.cps.toList.zip x.cps.toList.reverse).take (j + 1)) : Nat)), some (.str M.letters), some (.ref pm), some (.ref pe), some (.ref pq), o1, o2],
        fun σ' H'' ⟨y, o1, o2, q1, q2, q3⟩ => ⟨x.cps.size - (j + 1), by omega, j + 1, y, o1, o2, hlt, rfl, q1, q2, q3⟩, ?_⟩
      refine ⟨_, rfl, ⟨_, rfl⟩, _, rfl, y, _, _, rfl, rfl, hzy, atI_nat (j := 0) c1, M.letters, c, rfl, rfl, m1, ?_⟩
      refine ⟨_, rfl, ⟨_, rfl⟩, _, rfl, _, rfl, y, _, _, rfl, rfl, hzy, c2, M.letters, d, rfl, rfl, m2, ?_⟩
      refine ⟨_, rfl, _, rfl, pm, rs, _, _, rfl, rfl, SqL.of h2, atI_nat hp, ?_⟩
      refine ⟨_, rfl, _, rfl, M.letters, rfl, sz_le (by show M.letters.cps.size ≤ _; omega), _, _, rfl, rfl, .inr ?_, _, rfl, _, _, rfl, rfl, ?_⟩
      · show -(2 ^ 64) < ((M.letters.cps.size : Nat) : Int) ∧ ((M.letters.cps.size : Nat) : Int) < 2 ^ 64
        omega
      have ecast : (((M.letters.cps.toList.idxOf c : Nat) : Int) * ((M.letters.length : Nat) : Int) + ((M.letters.cps.toList.idxOf d : Nat) : Int)) = ((M.ix c * M.k + M.ix d : Nat) : Int) := by
        show (((M.letters.cps.toList.idxOf c : Nat) : Int) * ((M.letters.cps.size : Nat) : Int) + ((M.letters.cps.toList.idxOf d : Nat) : Int)) = _
        rw [Int.natCast_add, Int.natCast_mul]; rfl
      refine ⟨p, vI row, _, _, rfl, rfl, SqL.of hpl, at_of ecast (by rw [List.getElem?_map, ec]; rfl), ?_⟩
      refine ⟨_, rfl, _, rfl, _, rfl, _, rfl, y, rfl, hzy, ?_⟩
      refine ⟨cutS y (some 1) (some (-1)), some (.int (M.letters.cps.toList.idxOf c : Nat)), some (.int (M.letters.cps.toList.idxOf d : Nat)), ?_, rfl, ?_⟩
      · rw [cut_in (by omega), hy, hyl, ← rest_next (by rw [el]; exact hlt), el]
      · rw [List.take_succ_eq_append_getElem (by exact (List.getElem?_eq_some_iff.mp hz).1), (List.getElem?_eq_some_iff.mp hz).2, run_snoc]
        rfl
    · -- the end
      have hc' : ¬ 1 < ((y.cps.size : Nat) : Int) := hc
      have hjh : j = x.cps.size / 2 := by omega
      unfold Mach.hasAt at k
      simp only [el] at k
      subst hjh
      have hqq := hlq (x.cps.size / 2)
      generalize M.run q0 ((x.cps.toList.zip x.cps.toList.reverse).take (x.cps.size / 2)) = q at k hqq ⊢
      refine ⟨_, rfl, rfl, _, rfl, ite2D (fun he => ?_) (fun he => ?_)⟩
      · have hy0 : y.cps.size = 0 := by
          have : y = "" := by injection he
          rw [this]; rfl
        rw [if_pos (by omega)] at k
        exact ⟨_, rfl, _, rfl, pe, _, _, _, rfl, rfl, SqL.of h4, atI_nat (by rw [List.getElem?_map, Mach.fin_at ok hqq]; rfl), k⟩
      · have hy1 : y.cps.size = 1 := by
          have h0 : y.cps.size ≠ 0 := fun h0 => he (congrArg V.str (str_ext (by
            have : y.cps.toList = [] := List.length_eq_zero_iff.mp (by rw [Array.length_toList]; exact h0)
            rw [this]; rfl)))
          omega
        rw [if_neg (by omega)] at k
        have hlt : x.cps.size / 2 < x.cps.toList.length := by rw [el]; omega
        have hcx : x.cps.toList[x.cps.size / 2]? = some (x.cps.toList.getD (x.cps.size / 2) 0) := by
          rw [List.getD_eq_getElem?_getD, List.getElem?_eq_getElem hlt, Option.getD_some]
        have mc : x.cps.toList.getD (x.cps.size / 2) 0 ∈ M.L := ho _ (List.mem_of_getElem? hcx)
        generalize x.cps.toList.getD (x.cps.size / 2) 0 = c at k hcx mc
        have hyc : y = ⟨#[c]⟩ := by
          refine str_ext ?_
          have e0 : y.cps.toList[0]? = some c := by
            rw [hy, rest_get (by rw [el]; omega), Nat.add_zero]; exact hcx
          have el1 : y.cps.toList.length = 1 := by rw [Array.length_toList]; exact hy1
          obtain ⟨b, hb⟩ := List.length_eq_one_iff.mp el1
          rw [hb] at e0 ⊢
          simp at e0
          rw [e0]
        subst hyc
        obtain ⟨row, er, ec⟩ := Mach.mid_at ok hqq mc
        have er' : (M.mids.map vB)[q]? = some (vB row) := by rw [List.getElem?_map, er]; rfl
        obtain ⟨p, hp, hpl⟩ := h6.at er'
        exact ⟨_, rfl, _, rfl, pq, qs, _, _, rfl, rfl, SqL.of h5, atI_nat hp, _, rfl, ⟨_, rfl⟩, _, rfl, M.letters, c, rfl, rfl, mc, p, _, _, _, rfl, rfl, SqL.of hpl, atI_nat (by rw [List.getElem?_map, show row[M.letters.cps.toList.idxOf c]? = _ from ec]; rfl), k⟩
end
end Be

namespace Be
open PySem L2
section
variable {P : Program} {w : World} {K : PySem.W.Frag} {mg : Str → Option Value} {base : Heap}
/-! ### _law_texts -/
abbrev NT : List Str := ["_law_letters_here", "_law_long", "_law_found", "_law_turn", "_law_longer", "_law_text", "_law_letter"]
theorem sc35 : FnScope NT ["_law_letters_here", "_law_long"] (defScope (top 52)) := ⟨rfl, rfl, rfl, by decide +kernel, rfl, by decide +kernel, by decide +kernel⟩
theorem over_nil {L : Str} : Over L "" := fun c hc => by
  have e : ("" : Str).cps.toList = [] := rfl
  rw [e] at hc
  cases hc
theorem over_app {L x y : Str} (h1 : Over L x) (h2 : Over L y) : Over L (x ++ y) := fun c hc => by
  rw [app_list] at hc
  rcases List.mem_append.mp hc with q | q
  · exact h1 c q
  · exact h2 c q
theorem size_app (x y : Str) : (x ++ y).cps.size = x.cps.size + y.cps.size := by
  have := congrArg List.length (app_list x y)
  simpa using this
/-! ### _law_few -/
/-! ### _law_drawn -/
def spDrawn (K : PySem.W.Frag) : Sp := fun vs H Q _ => ∃ (a : Addr) (ns : List Int) (by_ : Int) (L : Str) (m : Int), vs = [.ref a, .int by_, .str L, .int m] ∧ SqL K H a (ns.map V.int) ∧ 0 ≤ by_ ∧ LetOk L ∧ 0 ≤ m ∧ m ≤ 1000 ∧
  ∀ (y : Str) (H' : Hp), Same H H' → Over L y → (y.cps.size : Int) ≤ m → Q (.str y) H'
theorem sc37 : FnScope ["_law_script", "_law_by", "_law_letters_here", "_law_most", "_law_cell", "_law_found", "_law_at"] ["_law_script", "_law_by", "_law_letters_here", "_law_most"] (defScope (top 53)) := ⟨rfl, rfl, rfl, by decide +kernel, rfl, by decide +kernel, by decide +kernel⟩
set_option maxHeartbeats 1000000 in
theorem ok_drawn {f f26 f28 : Addr} {fd fd26 fd28 : FuncData} (D : Def K mg "_law_drawn" (top 53) ["_law_script", "_law_by", "_law_letters_here", "_law_most"] f fd) (T : BI mg)
    (D26 : Def K mg "_law_cell_at" (top 44) ["_law_script", "_law_k"] f26 fd26) (G26 : FnOk P w K mg base CX0 1 f26 fd26 ["_law_script", "_law_k"] (spCell K))
    (D28 : Def K mg "_law_value" (top 46) ["_law_cell", "_law_turn"] f28 fd28) (G28 : FnOk P w K mg base CX0 2 f28 fd28 ["_law_cell", "_law_turn"] spValue) :
    FnOk P w K mg base CX0 3 f fd ["_law_script", "_law_by", "_law_letters_here", "_law_most"] (spDrawn K) := by
  refine D.F.ok sc37 (fun vs H Q E h => ?_) (fun cdv A outer s H vs Q E hr h => ?_)
  · obtain ⟨a, ns, by_, L, m, rfl, _⟩ := h; rfl
  · obtain ⟨a, ns, by_, L, m, rfl, hS, hby, hL, hm0, hm, kk⟩ := h
    have hr1 : Room 1 _ := hr.mono (by decide)
    refine ⟨_, pss_cons (ps_set (i := 4) sc37.nd rfl (Or.inl rfl) (pe_call G26 hr1 (by rfl) D26.m D26.F.kp D26.b .nil pass0 (pa_cons (pv 0) (pa_cons (pv 1) pa_nil))))
      (pss_cons (ps_set (i := 5) sc37.nd rfl (Or.inl rfl) pe_str)
      (pss_cons (ps_for PassesOwn.never rfl (pi_range1 (by rfl) T.range (pa_cons (pe_op op_mod (pe_call G28 hr (by rfl) D28.m D28.F.kp D28.b .nil pass0 (pa_cons (pv 4) (pa_cons pe_int pa_nil))) (pe_op op_add (pv 3) pe_int)) pa_nil)) (pg_name (i := 6) sc37.nd rfl (Or.inl rfl))
        (pss_one (ps_set (i := 5) sc37.nd rfl (Or.inl rfl) (pe_op op_add_str (pv 5) (pe_ix ix_str (pv 2)
          (pe_op op_mod (pe_op op_fdiv (pe_call G28 hr (by rfl) D28.m D28.F.kp D28.b .nil pass0 (pa_cons (pe_call G26 hr1 (by rfl) D26.m D26.F.kp D26.b .nil pass0 (pa_cons (pv 0) (pa_cons (pe_op op_add (pv 1) (pe_op op_mod (pv 6) pe_int)) pa_nil)))
            (pa_cons (pe_op op_add (pe_op op_mod (pv 6) pe_int) pe_int) pa_nil))) pe_int) (pe_callB call_len_str (by rfl) T.len PySem.boot_len (pa_cons (pv 2) pa_nil))) (fun _ _ => rfl))))))
      (pss_one (ps_ret (pv 5))))), ?_⟩
    have k1 := hL.k1
    have k3 := hL.k3
    have hz : L.length ≤ sizeLine := sz_le (by show L.cps.size ≤ _; omega)
    refine ⟨_, rfl, _, rfl, a, ns, by_, rfl, hS, hby, fun c => ?_⟩
    refine ⟨_, rfl, c, 8, rfl, by decide, by decide, fun v H1 v0 s1 => ?_⟩
    refine ⟨_, rfl, _, _, rfl, rfl, _, _, rfl, rfl, (by show 0 < m + 1; omega), ?_⟩
    have hv1 : 0 ≤ v % (m + 1) := Int.emod_nonneg _ (by omega)
    have hv2 : v % (m + 1) < m + 1 := Int.emod_lt_of_pos _ (by omega)
    refine ⟨v % (m + 1), rfl, by omega, by omega, for_range (lo := 0) (n := (v % (m + 1)).toNat) (fun i σ H' => ∃ (y : Str) (o6 : Option V), σ = [some (.ref a), some (.int by_), some (.str L), some (.int m), some (.int c), some (.str y), o6] ∧ Same H H' ∧ Over L y ∧ y.cps.size = i)
      ⟨"", none, rfl, s1, over_nil, rfl⟩ ?_ ?_⟩
    · rintro i σ H2 hi ⟨y, o6, rfl, s2, hy, hyl⟩
      refine ⟨_, rfl, _, rfl, _, rfl, _, rfl, _, rfl, _, _, rfl, rfl, (by show (0 : Int) < 4; decide), _, _, rfl, rfl, a, ns, _, rfl, s2.seq hS, (by omega), fun c2 => ?_⟩
      refine ⟨_, rfl, _, _, rfl, rfl, (by show (0 : Int) < 9; decide), _, _, rfl, rfl, _, _, rfl, (by omega), (by omega), fun v2 H3 v20 s3 => ?_⟩
      refine ⟨_, _, rfl, rfl, ⟨by decide, by decide⟩, _, rfl, L, rfl, hz, _, _, rfl, rfl, (by show (0 : Int) < ((L.cps.size : Nat) : Int); omega), ?_⟩
      obtain ⟨g, eg, hg⟩ := nat_mod (v2 / 5) (show 0 < L.cps.size by omega)
      have eg' : v2 / 5 % ((L.length : Nat) : Int) = (g : Int) := eg
      have hgl : g < L.cps.toList.length := by rw [Array.length_toList]; exact hg
      have hgm : L.cps.toList[g]'hgl ∈ L.cps.toList := List.getElem_mem hgl
      dsimp only
      rw [eg']
      refine ⟨L, _, L.cps.toList[g]'hgl, rfl, rfl, hz, atI_nat (List.getElem?_eq_getElem hgl), ?_⟩
      refine ⟨y, _, rfl, rfl, sz_le (by show y.cps.size + 1 ≤ _; omega), ?_⟩
      refine ⟨_, _, rfl, s2.trans s3, over_app hy fun d hd => ?_, by rw [size_app, hyl]; rfl⟩
      have : d = L.cps.toList[g]'hgl := by simpa using hd
      rw [this]; exact hgm
    · rintro σ H2 ⟨y, o6, rfl, s2, hy, hyl⟩
      exact ⟨_, rfl, kk y H2 s2 hy (by omega)⟩
/-! ### _law_behind -/
end
end Be

namespace Be
open PySem L2
/-! ### words in two halves -/
/-! ### a machine as data -/
def dI (r : List Nat) : PyData := .list (r.map fun g : Nat => PyData.int (g : Int))
def dB (r : List Bool) : PyData := .list (r.map .bool)
def dM (M : Mach) : PyData := .tuple [.str M.letters, .list (M.moves.map dI), dB M.ends, .list (M.mids.map dB)]
theorem dp_ints {K : PySem.W.Frag} {H : Hp} : ∀ r : List Nat, DpAll K H (vI r) (r.map fun g : Nat => PyData.int (g : Int))
  | [] => .nil
  | g :: r => .cons (.int _) (dp_ints r)
theorem dp_bools {K : PySem.W.Frag} {H : Hp} : ∀ r : List Bool, DpAll K H (vB r) (r.map .bool)
  | [] => .nil
  | g :: r => .cons (.bl _) (dp_bools r)
theorem dp_rowsI {K : PySem.W.Frag} {H : Hp} : ∀ {rs : List V} {mv : List (List Nat)}, Rows H rs (mv.map vI) → DpAll K H rs (mv.map dI)
  | [], [], _ => .nil
  | _ :: _, [], h => by cases h
  | [], _ :: _, h => by cases h
  | r :: rs, m :: mv, h => by
    have h : Paired _ (r :: rs) (vI m :: mv.map vI) := h
    cases h with
    | cons h1 h2 =>
      obtain ⟨p, rfl, e⟩ := h1
      exact .cons (.lst (SqL.of e) (dp_ints m)) (dp_rowsI h2)
theorem dp_rowsB {K : PySem.W.Frag} {H : Hp} : ∀ {rs : List V} {mv : List (List Bool)}, Rows H rs (mv.map vB) → DpAll K H rs (mv.map dB)
  | [], [], _ => .nil
  | _ :: _, [], h => by cases h
  | [], _ :: _, h => by cases h
  | r :: rs, m :: mv, h => by
    have h : Paired _ (r :: rs) (vB m :: mv.map vB) := h
    cases h with
    | cons h1 h2 =>
      obtain ⟨p, rfl, e⟩ := h1
      exact .cons (.lst (SqL.of e) (dp_bools m)) (dp_rowsB h2)
theorem MAt.dp {K : PySem.W.Frag} {H : Hp} {v : V} {M : Mach} (h : MAt H v M) : Dp K H v (dM M) := by
  obtain ⟨a, pm, pe, pq, rs, qs, rfl, h1, h2, h3, h4, h5, h6⟩ := h
  exact .tup (SqT.of h1) (.cons (.str _) (.cons (.lst (SqL.of h2) (dp_rowsI h3)) (.cons (.lst (SqL.of h4) (dp_bools _)) (.cons (.lst (SqL.of h5) (dp_rowsB h6)) .nil))))
theorem lay_all {ds : List PyData} (h : ∀ d ∈ ds, d.canLay0 = true) : PyData.canLayAll0 ds = true := by
  induction ds with
  | nil => rfl
  | cons d ds ih =>
    rw [PyData.canLayAll0, h d (List.mem_cons_self ..), ih fun d' h' => h d' (List.mem_cons_of_mem _ h')]; rfl
theorem dep_all {ds : List PyData} {n : Nat} (h : ∀ d ∈ ds, d.depth ≤ n) : PyData.depthAll ds ≤ n := by
  induction ds with
  | nil => rw [PyData.depthAll]; exact Nat.zero_le _
  | cons d ds ih =>
    rw [PyData.depthAll]
    exact Nat.max_le.mpr ⟨h d (List.mem_cons_self ..), ih fun d' h' => h d' (List.mem_cons_of_mem _ h')⟩
theorem lay_dI (r : List Nat) : (dI r).canLay0 = true := by
  unfold dI
  rw [PyData.canLay0]
  refine lay_all fun d hd => ?_
  obtain ⟨g, _, rfl⟩ := List.mem_map.mp hd
  rfl
theorem lay_dB (r : List Bool) : (dB r).canLay0 = true := by
  unfold dB
  rw [PyData.canLay0]
  refine lay_all fun d hd => ?_
  obtain ⟨g, _, rfl⟩ := List.mem_map.mp hd
  rfl
theorem dep_dI (r : List Nat) : (dI r).depth ≤ 2 := by
  unfold dI
  rw [PyData.depth]
  have := dep_all (n := 1) (ds := r.map fun g : Nat => PyData.int (g : Int)) fun d hd => by
    obtain ⟨g, _, rfl⟩ := List.mem_map.mp hd
    simp [PyData.depth]
  omega
theorem dep_dB (r : List Bool) : (dB r).depth ≤ 2 := by
  unfold dB
  rw [PyData.depth]
  have := dep_all (n := 1) (ds := r.map PyData.bool) fun d hd => by
    obtain ⟨g, _, rfl⟩ := List.mem_map.mp hd
    simp [PyData.depth]
  omega
theorem strOk_let {x : Str} (h : LetOk x) : PyData.canLay0 (.str x) = true := by
  rw [PyData.canLay0]
  unfold PyData.strOk
  rw [Array.all_eq_true_iff_forall_mem]
  intro c hc
  have := h.hi c (by simpa using hc)
  simp; omega
theorem shaped_dM {M : Mach} (ok : M.Ok) : SeqAt.shaped (dM M) = true := by
  unfold SeqAt.shaped
  rw [Bool.and_eq_true]
  constructor
  · unfold dM
    rw [PyData.canLay0]
    refine lay_all fun d hd => ?_
    have e : d = .str M.letters ∨ d = .list (M.moves.map dI) ∨ d = dB M.ends ∨ d = .list (M.mids.map dB) := by simpa using hd
    rcases e with rfl | rfl | rfl | rfl
    · exact strOk_let ok.let_
    · rw [PyData.canLay0]
      refine lay_all fun d hd => ?_
      obtain ⟨g, _, rfl⟩ := List.mem_map.mp hd
      exact lay_dI _
    · exact lay_dB _
    · rw [PyData.canLay0]
      refine lay_all fun d hd => ?_
      obtain ⟨g, _, rfl⟩ := List.mem_map.mp hd
      exact lay_dB _
  · refine decide_eq_true ?_
    have h : PyData.depthAll [.str M.letters, .list (M.moves.map dI), dB M.ends, .list (M.mids.map dB)] ≤ 3 := dep_all fun d hd => by
      have e : d = .str M.letters ∨ d = .list (M.moves.map dI) ∨ d = dB M.ends ∨ d = .list (M.mids.map dB) := by simpa using hd
      rcases e with rfl | rfl | rfl | rfl
      · simp [PyData.depth]
      · rw [PyData.depth]
        have := dep_all (n := 2) (ds := M.moves.map dI) fun d hd => by
          obtain ⟨g, _, rfl⟩ := List.mem_map.mp hd
          exact dep_dI _
        omega
      · have := dep_dB M.ends; omega
      · rw [PyData.depth]
        have := dep_all (n := 2) (ds := M.mids.map dB) fun d hd => by
          obtain ⟨g, _, rfl⟩ := List.mem_map.mp hd
          exact dep_dB _
        omega
    unfold dM
    rw [PyData.depth]
    omega
theorem eqv_dM {M : Mach} (ok : M.Ok) : PyData.eqv (dM M) (dM M) = true := SeqAt.eqv_refl _ (SeqAt.canLay_of_shaped (shaped_dM ok))
end Be

namespace L2
open PySem PySem.Spec PyProof.Rows
/-! ### written data: numbers, truths, texts, lists and tuples of such -/
mutual
inductive Tk (H : Hp) : V → PyData → Prop
  | bl (b : Bool) : Tk H (.bl b) (.bool b)
  | int (i : Int) : Tk H (.int i) (.int i)
  | str (x : Str) : Tk H (.str x) (.str x)
  | lst {a : Addr} {xs : List V} {ds : List PyData} : H a = some (.lst xs) → TkAll H xs ds → Tk H (.ref a) (.list ds)
  | tup {a : Addr} {xs : List V} {ds : List PyData} : H a = some (.tup xs) → TkAll H xs ds → Tk H (.ref a) (.tuple ds)
inductive TkAll (H : Hp) : List V → List PyData → Prop
  | nil : TkAll H [] []
  | cons {v : V} {vs : List V} {d : PyData} {ds : List PyData} : Tk H v d → TkAll H vs ds → TkAll H (v :: vs) (d :: ds)
end
mutual
theorem Tk.same {H H' : Hp} (s : Same H H') : ∀ {v : V} {d : PyData}, Tk H v d → Tk H' v d
  | _, _, .bl b => .bl b
  | _, _, .int i => .int i
  | _, _, .str x => .str x
  | _, _, .lst e h => .lst (s _ _ e) (TkAll.same s h)
  | _, _, .tup e h => .tup (s _ _ e) (TkAll.same s h)
theorem TkAll.same {H H' : Hp} (s : Same H H') : ∀ {vs : List V} {ds : List PyData}, TkAll H vs ds → TkAll H' vs ds
  | _, _, .nil => .nil
  | _, _, .cons h t => .cons (Tk.same s h) (TkAll.same s t)
end
mutual
theorem Tk.dp {K : PySem.W.Frag} {H : Hp} : ∀ {v : V} {d : PyData}, Tk H v d → Dp K H v d
  | _, _, .bl b => .bl b
  | _, _, .int i => .int i
  | _, _, .str x => .str x
  | _, _, .lst e h => .lst (SqL.of e) (TkAll.dp h)
  | _, _, .tup e h => .tup (SqT.of e) (TkAll.dp h)
theorem TkAll.dp {K : PySem.W.Frag} {H : Hp} : ∀ {vs : List V} {ds : List PyData}, TkAll H vs ds → DpAll K H vs ds
  | _, _, .nil => .nil
  | _, _, .cons h t => .cons (Tk.dp h) (TkAll.dp t)
end
theorem TkAll.len {H : Hp} : ∀ {vs : List V} {ds : List PyData}, TkAll H vs ds → vs.length = ds.length
  | _, _, .nil => rfl
  | _, _, .cons _ t => by rw [List.length_cons, List.length_cons, TkAll.len t]
def tCd (d : PyData) : TE := fun _ H Q => ∀ v H', Same H H' → Tk H' v d → Q v H'
def tCds (ds : List PyData) : TA := fun _ H Q => ∀ vs H', Same H H' → TkAll H' vs ds → Q vs H'
def cdAll (f : Expr → Option PyData) : List Expr → Option (List PyData)
  | [] => some []
  | e :: es => match f e, cdAll f es with
    | some d, some ds => some (d :: ds)
    | _, _ => none
def cdF : Nat → Expr → Option PyData
  | 0, _ => none
  | n + 1, e => match e with
    | .Constant (.int i) _ _ => some (.int i)
    | .Constant (.bool b) _ _ => some (.bool b)
    | .Constant (.str x) _ _ => some (.str x)
    | .List es _ => if es.length ≤ 1000 then (cdAll (cdF n) es).map .list else none
    | .Tuple es _ _ => if es.length ≤ 1000 then (cdAll (cdF n) es).map .tuple else none
    | _ => none
section
variable {X : Cx}
theorem PE.imp {e : Expr} {t t' : TE} (h : PE X e t) (hi : ∀ σ H Q, t' σ H Q → t σ H Q) : PE X e t' := fun pins s σ H Q I q => h pins s σ H Q I (hi σ H Q q)
theorem PA.imp {es : List Expr} {t t' : TA} (h : PA X es t) (hi : ∀ σ H Q, t' σ H Q → t σ H Q) : PA X es t' := fun pos pins s σ H Q I q => h pos pins s σ H Q I (hi σ H Q q)
theorem cdF_star {n : Nat} {e : Expr} {es : List Expr} {d : PyData} {env : Env} (h : cdF n e = some d) : starEach (e :: es) env = (false, eval e env) :: starEach es env := by
  cases n with
  | zero => cases h
  | succ n =>
    unfold cdF at h
    split at h <;> first | rfl | cases h
theorem cdAll_len {f : Expr → Option PyData} : ∀ {es : List Expr} {ds : List PyData}, cdAll f es = some ds → es.length = ds.length
  | [], _, h => by cases h; rfl
  | e :: es, ds, h => by
    unfold cdAll at h
    split at h
    · rename_i d ds' h1 h2
      cases h
      rw [List.length_cons, List.length_cons, cdAll_len h2]
    · cases h
theorem pa_cds {n : Nat} (ih : ∀ {e : Expr} {d : PyData}, cdF n e = some d → PE X e (tCd d)) : ∀ {es : List Expr} {ds : List PyData}, cdAll (cdF n) es = some ds → PA X es (tCds ds)
  | [], _, h => by
    cases h
    exact PA.imp pa_nil fun σ H Q q => q [] H (Same.refl _) .nil
  | e :: es, ds, h => by
    unfold cdAll at h
    split at h
    · rename_i d ds' h1 h2
      cases h
      refine PA.imp (pa_cons (ih h1) (pa_cds ih h2) (cdF_star h1)) fun σ H Q q v H1 s1 t1 vs H2 s2 t2 => ?_
      exact q (v :: vs) H2 (s1.trans s2) (.cons (t1.same s2) t2)
    · cases h
theorem sl1000 {n : Nat} (h : n ≤ 1000) : n ≤ sizeLine := Nat.le_trans h (by decide)
theorem upd_new {H : Hp} {a : Addr} {o : HO} (h : H a = none) : Same H (upd H a o) := fun b u e => by rw [upd_ne (ne_of_none e h)]; exact e
theorem pe_cst : ∀ {n : Nat} {e : Expr} {d : PyData}, cdF n e = some d → PE X e (tCd d)
  | 0, _, _, h => by cases h
  | n + 1, e, d, h => by
    unfold cdF at h
    split at h
    · cases h; exact PE.imp pe_int fun σ H Q q => q _ H (Same.refl _) (.int _)
    · cases h; exact PE.imp pe_bl fun σ H Q q => q _ H (Same.refl _) (.bl _)
    · cases h; exact PE.imp pe_str fun σ H Q q => q _ H (Same.refl _) (.str _)
    · split at h
      · rename_i hl
        cases e2 : cdAll (cdF n) _ with
        | none => rw [e2] at h; cases h
        | some ds =>
          rw [e2] at h
          cases h
          refine PE.imp (pe_lst (pa_cds (fun h => pe_cst h) e2)) fun σ H Q q vs H1 s1 t1 => ?_
          refine ⟨sl1000 (by rw [t1.len, ← cdAll_len e2]; exact hl), fun p hp => q _ _ (s1.trans (upd_new hp)) (.lst upd_same (t1.same (upd_new hp)))⟩
      · cases h
    · split at h
      · rename_i hl
        cases e2 : cdAll (cdF n) _ with
        | none => rw [e2] at h; cases h
        | some ds =>
          rw [e2] at h
          cases h
          refine PE.imp (pe_tup (pa_cds (fun h => pe_cst h) e2)) fun σ H Q q vs H1 s1 t1 => ?_
          refine ⟨sl1000 (by rw [t1.len, ← cdAll_len e2]; exact hl), fun p hp => q _ _ (s1.trans (upd_new hp)) (.tup upd_same (t1.same (upd_new hp)))⟩
      · cases h
    · cases h
end
end L2
namespace Be
open PySem L2
theorem tk_ints {H : Hp} : ∀ {vs : List V} {r : List Nat}, TkAll H vs (r.map fun g : Nat => PyData.int (g : Int)) → vs = vI r
  | _, [], h => by cases h; rfl
  | _, g :: r, h => by
    have h : TkAll H _ (PyData.int (g : Int) :: r.map fun g : Nat => PyData.int (g : Int)) := h
    cases h with
    | cons h t => cases h; rw [tk_ints t]; rfl
theorem tk_bools {H : Hp} : ∀ {vs : List V} {r : List Bool}, TkAll H vs (r.map PyData.bool) → vs = vB r
  | _, [], h => by cases h; rfl
  | _, g :: r, h => by
    have h : TkAll H _ (PyData.bool g :: r.map PyData.bool) := h
    cases h with
    | cons h t => cases h; rw [tk_bools t]; rfl
theorem tk_rowsI {H : Hp} : ∀ {vs : List V} {mv : List (List Nat)}, TkAll H vs (mv.map dI) → Rows H vs (mv.map vI)
  | _, [], h => by cases h; exact .nil
  | _, m :: mv, h => by
    have h : TkAll H _ (dI m :: mv.map dI) := h
    cases h with
    | cons h t =>
      unfold dI at h
      cases h with
      | lst e h => exact .cons ⟨_, rfl, by rw [e, tk_ints h]⟩ (tk_rowsI t)
theorem tk_rowsB {H : Hp} : ∀ {vs : List V} {mv : List (List Bool)}, TkAll H vs (mv.map dB) → Rows H vs (mv.map vB)
  | _, [], h => by cases h; exact .nil
  | _, m :: mv, h => by
    have h : TkAll H _ (dB m :: mv.map dB) := h
    cases h with
    | cons h t =>
      unfold dB at h
      cases h with
      | lst e h => exact .cons ⟨_, rfl, by rw [e, tk_bools h]⟩ (tk_rowsB t)
theorem MAt.of_tk {H : Hp} {v : V} {M : Mach} (h : Tk H v (dM M)) : MAt H v M := by
  unfold dM at h
  cases h with
  | tup e h =>
    cases h with
    | cons h1 h =>
      cases h with
      | cons h2 h =>
        cases h with
        | cons h3 h =>
          cases h with
          | cons h4 h =>
            cases h
            cases h1
            cases h2 with
            | lst e2 h2 =>
              unfold dB at h3
              cases h3 with
              | lst e3 h3 =>
                cases h4 with
                | lst e4 h4 => exact ⟨_, _, _, _, _, _, rfl, e, e2, tk_rowsI h2, by rw [e3, tk_bools h3], e4, tk_rowsB h4⟩
/-- whether a written machine is one -/
def okB (M : Mach) : Bool := letB M.L && decide (1 ≤ M.moves.length) && decide (M.moves.length ≤ 40) && M.moves.all (fun r => decide (r.length = M.k * M.k) && r.all fun g => decide (g < M.moves.length)) &&
  decide (M.ends.length = M.moves.length) && decide (M.mids.length = M.moves.length) && M.mids.all fun r => decide (r.length = M.k)
theorem ok_of {M : Mach} (h : okB M = true) : M.Ok := by
  unfold okB at h
  simp only [Bool.and_eq_true, decide_eq_true_eq, List.all_eq_true] at h
  obtain ⟨⟨⟨⟨⟨⟨h1, h2⟩, h3⟩, h4⟩, h5⟩, h6⟩, h7⟩ := h
  exact ⟨letOk_of h1, h2, h3, fun r hr => ⟨(h4 r hr).1, fun g hg => (h4 r hr).2 g hg⟩, h5, h6, h7⟩
end Be

/-! Least machines: the mathematics, apart from any program text. -/
namespace Be
/-! ### lists without what came before -/
section
variable {α β : Type} [DecidableEq α] [DecidableEq β]
/-- f, and behind it what of l is not there yet, in order -/
def addN (f l : List α) : List α := l.foldl (fun f x => if x ∈ f then f else f ++ [x]) f
def dd (l : List α) : List α := addN [] l
theorem addN_nil (f : List α) : addN f [] = f := rfl
theorem addN_cons (f : List α) (x : α) (l : List α) : addN f (x :: l) = addN (if x ∈ f then f else f ++ [x]) l := rfl
theorem addN_app (f l r : List α) : addN f (l ++ r) = addN (addN f l) r := by unfold addN; rw [List.foldl_append]
theorem mem_addN : ∀ {l f : List α} {x : α}, x ∈ addN f l ↔ x ∈ f ∨ x ∈ l
  | [], f, x => by rw [addN_nil]; simp
  | a :: l, f, x => by
    rw [addN_cons, mem_addN]
    by_cases h : a ∈ f
    · rw [if_pos h]
      constructor
      · rintro (q | q)
        · exact .inl q
        · exact .inr (List.mem_cons_of_mem _ q)
      · rintro (q | q)
        · exact .inl q
        · rcases List.mem_cons.mp q with rfl | q
          · exact .inl h
          · exact .inr q
    · rw [if_neg h]
      rw [List.mem_append, List.mem_singleton, List.mem_cons, or_assoc]
theorem addN_pre : ∀ (l f : List α), ∃ r, addN f l = f ++ r
  | [], f => ⟨[], by rw [addN_nil, List.append_nil]⟩
  | a :: l, f => by
    rw [addN_cons]
    by_cases h : a ∈ f
    · rw [if_pos h]; exact addN_pre l f
    · rw [if_neg h]
      obtain ⟨r, e⟩ := addN_pre l (f ++ [a])
      exact ⟨a :: r, by rw [e, List.append_assoc]; rfl⟩
theorem addN_nodup : ∀ {l f : List α}, f.Nodup → (addN f l).Nodup
  | [], f, h => h
  | a :: l, f, h => by
    rw [addN_cons]
    by_cases ha : a ∈ f
    · rw [if_pos ha]; exact addN_nodup h
    · rw [if_neg ha]; exact addN_nodup (L2.nd_snoc h ha)
theorem addN_in : ∀ {l f : List α}, (∀ x ∈ l, x ∈ f) → addN f l = f
  | [], f, _ => rfl
  | a :: l, f, h => by
    rw [addN_cons, if_pos (h a (List.mem_cons_self ..))]
    exact addN_in fun x hx => h x (List.mem_cons_of_mem _ hx)
theorem addN_new : ∀ {l f : List α}, (f ++ l).Nodup → addN f l = f ++ l
  | [], f, _ => by rw [addN_nil, List.append_nil]
  | a :: l, f, h => by
    have h2 : (f ++ [a] ++ l).Nodup := by rw [List.append_assoc]; exact h
    have ha : a ∉ f := by
      intro q
      rw [List.nodup_append] at h
      exact h.2.2 a q a (List.mem_cons_self ..) rfl
    rw [addN_cons, if_neg ha, addN_new h2, List.append_assoc]; rfl
theorem dd_nodup (l : List α) : (dd l).Nodup := addN_nodup List.nodup_nil
theorem mem_dd {l : List α} {x : α} : x ∈ dd l ↔ x ∈ l := by unfold dd; rw [mem_addN]; simp
theorem dd_self {l : List α} (h : l.Nodup) : dd l = l := by unfold dd; rw [addN_new (by simpa using h)]; rfl
theorem dd_app (l r : List α) : dd (l ++ r) = addN (dd l) r := addN_app [] l r
theorem dd_map_addN (φ : α → β) : ∀ (l f : List α), dd ((addN f l).map φ) = addN (dd (f.map φ)) (l.map φ)
  | [], f => rfl
  | a :: l, f => by
    rw [addN_cons, List.map_cons, addN_cons]
    by_cases h : a ∈ f
    · rw [if_pos h, if_pos (mem_dd.mpr (List.mem_map.mpr ⟨a, h, rfl⟩)), dd_map_addN φ l f]
    · rw [if_neg h, dd_map_addN φ l, List.map_append, dd_app]
      rfl
theorem dd_take_pre (l : List α) (n : Nat) : ∃ r, dd l = dd (l.take n) ++ r := by
  obtain ⟨r, e⟩ := addN_pre (l.drop n) (dd (l.take n))
  refine ⟨r, ?_⟩
  rw [← e, ← dd_app, List.take_append_drop]
end
/-! ### going -/
def Mach.row (M : Mach) (q : Nat) : List Nat := M.moves.getD q []
def Mach.go1 (M : Mach) (q i : Nat) : Nat := (M.row q).getD i 0
def Mach.go (M : Mach) (q : Nat) (is : List Nat) : Nat := is.foldl M.go1 q
def Mach.obs (M : Mach) (q : Nat) : Bool × List Bool := (M.ends.getD q false, M.mids.getD q [])
/-- all steps are steps of M -/
abbrev Mach.Stp (M : Mach) (is : List Nat) : Prop := ∀ i ∈ is, i < M.k * M.k
theorem Mach.row_len {M : Mach} {Bd : Nat} (ok : M.OkB Bd) {q : Nat} (h : q < M.moves.length) : (M.row q).length = M.k * M.k ∧ (∀ g ∈ M.row q, g < M.moves.length) ∧ M.moves[q]? = some (M.row q) := by
  have e : M.row q = M.moves[q]'h := by unfold Mach.row; rw [List.getD_eq_getElem?_getD, List.getElem?_eq_getElem h, Option.getD_some]
  rw [e]
  exact ⟨(ok.rows _ (List.getElem_mem h)).1, (ok.rows _ (List.getElem_mem h)).2, List.getElem?_eq_getElem h⟩
theorem Mach.go1_row {M : Mach} {Bd : Nat} (ok : M.OkB Bd) {q i : Nat} (h : q < M.moves.length) (hi : i < M.k * M.k) : (M.row q)[i]? = some (M.go1 q i) := by
  have hl := (Mach.row_len ok h).1
  unfold Mach.go1
  rw [List.getD_eq_getElem?_getD, List.getElem?_eq_getElem (by rw [hl]; exact hi), Option.getD_some]
theorem Mach.go1_lt {M : Mach} {Bd : Nat} (ok : M.OkB Bd) {q i : Nat} (h : q < M.moves.length) (hi : i < M.k * M.k) : M.go1 q i < M.moves.length :=
  (Mach.row_len ok h).2.1 _ (List.mem_of_getElem? (Mach.go1_row ok h hi))
theorem Mach.go_lt {M : Mach} {Bd : Nat} (ok : M.OkB Bd) : ∀ {is : List Nat} {q : Nat}, q < M.moves.length → M.Stp is → M.go q is < M.moves.length
  | [], _, h, _ => h
  | i :: is, q, h, hs => Mach.go_lt ok (is := is) (Mach.go1_lt ok h (hs i (List.mem_cons_self ..))) fun j hj => hs j (List.mem_cons_of_mem _ hj)
/-- behind p of M and q of N the same is told -/
def Eqs (M N : Mach) (p q : Nat) : Prop := ∀ is, M.Stp is → M.obs (M.go p is) = N.obs (N.go q is)
theorem Eqs.refl (M : Mach) (p : Nat) : Eqs M M p p := fun _ _ => rfl
theorem Eqs.step {M N : Mach} {p q i : Nat} (h : Eqs M N p q) (hi : i < M.k * M.k) : Eqs M N (M.go1 p i) (N.go1 q i) := fun is hs => h (i :: is) fun j hj => by
  rcases List.mem_cons.mp hj with rfl | hj
  · exact hi
  · exact hs j hj
theorem Eqs.obs {M N : Mach} {p q : Nat} (h : Eqs M N p q) : M.obs p = N.obs q := h [] fun _ h => by cases h
theorem Eqs.symm {M N : Mach} (e : M.k = N.k) {p q : Nat} (h : Eqs M N p q) : Eqs N M q p := fun is hs => (h is (by intro i hi; rw [e]; exact hs i hi)).symm
theorem Eqs.trans {M N O : Mach} (e : M.k = N.k) {p q r : Nat} (h : Eqs M N p q) (h' : Eqs N O q r) : Eqs M O p r := fun is hs => (h is hs).trans (h' is (by intro i hi; rw [← e]; exact hs i hi))
/-! ### the states as they are first come by -/
inductive Run (M : Mach) : Nat → List Nat → List Nat → Prop
  | stop {t : Nat} {f : List Nat} : f.length ≤ t → Run M t f f
  | step {t : Nat} {f r : List Nat} {s : Nat} : f[t]? = some s → Run M (t + 1) (addN f (M.row s)) r → Run M t f r
theorem Run.pre {M : Mach} {t : Nat} {f r : List Nat} (h : Run M t f r) : ∃ z, r = f ++ z := by
  induction h with
  | stop _ => exact ⟨[], by rw [List.append_nil]⟩
  | step _ _ ih =>
    obtain ⟨z, e⟩ := ih
    obtain ⟨y, e'⟩ := addN_pre (M.row _) _
    exact ⟨y ++ z, by rw [e, e', List.append_assoc]⟩
/-- what is come by is closed, without doubles, within the states -/
theorem Run.inv {M : Mach} {Bd : Nat} (ok : M.OkB Bd) {t : Nat} {f r : List Nat} (h : Run M t f r) (nd : f.Nodup) (lt : ∀ s ∈ f, s < M.moves.length) (cl : ∀ j s, j < t → f[j]? = some s → ∀ g ∈ M.row s, g ∈ f) :
    r.Nodup ∧ (∀ s ∈ r, s < M.moves.length) ∧ ∀ s ∈ r, ∀ g ∈ M.row s, g ∈ r := by
  induction h with
  | stop h =>
    refine ⟨nd, lt, fun s hs => ?_⟩
    obtain ⟨j, hj⟩ := List.getElem?_of_mem hs
    have := (List.getElem?_eq_some_iff.mp hj).1
    exact cl j s (by omega) hj
  | @step t f r s e _ ih =>
    have hs : s < M.moves.length := lt s (List.mem_of_getElem? e)
    obtain ⟨z, ez⟩ := addN_pre (M.row s) f
    refine ih (addN_nodup nd) (fun x hx => ?_) (fun j x hj hx g hg => ?_)
    · rcases mem_addN.mp hx with q | q
      · exact lt x q
      · exact (Mach.row_len ok hs).2.1 x q
    · have ht : t < f.length := (List.getElem?_eq_some_iff.mp e).1
      rw [ez, List.getElem?_append_left (by omega)] at hx
      by_cases hjt : j < t
      · exact mem_addN.mpr (.inl (cl j x hjt hx g hg))
      · have : j = t := by omega
        subst this
        rw [e] at hx; cases hx
        exact mem_addN.mpr (.inr hg)
/-- an image of a machine is come by in the image's order -/
theorem Run.image {M N : Mach} {φ : Nat → Nat} {t : Nat} {f r : List Nat} (h : Run M t f r) (hφ : ∀ s ∈ r, N.row (φ s) = (M.row s).map φ)
    (cl : ∀ j s, j < t → f[j]? = some s → ∀ g ∈ M.row s, g ∈ f) : Run N (dd ((f.take t).map φ)).length (dd (f.map φ)) (dd (r.map φ)) := by
  induction h with
  | @stop t f h =>
    refine .stop ?_
    rw [List.take_of_length_le h]
    exact Nat.le_refl _
  | @step t f r s e hr ih =>
    have ht : t < f.length := (List.getElem?_eq_some_iff.mp e).1
    have et : f.take (t + 1) = f.take t ++ [s] := by rw [List.take_succ_eq_append_getElem ht, (List.getElem?_eq_some_iff.mp e).2]
    obtain ⟨z, ez⟩ := addN_pre (M.row s) f
    have etz : (addN f (M.row s)).take (t + 1) = f.take t ++ [s] := by rw [ez, List.take_append_of_le_length (by omega), et]
    obtain ⟨y, ey⟩ := Run.pre hr
    have hsr : s ∈ r := by rw [ey]; exact List.mem_append_left _ (mem_addN.mpr (.inl (List.mem_of_getElem? e)))
    have cl' : ∀ j x, j < t + 1 → (addN f (M.row s))[j]? = some x → ∀ g ∈ M.row x, g ∈ addN f (M.row s) := fun j x hj hx g hg => by
      rw [ez, List.getElem?_append_left (by omega)] at hx
      by_cases hjt : j < t
      · exact mem_addN.mpr (.inl (cl j x hjt hx g hg))
      · have : j = t := by omega
        subst this
        rw [e] at hx; cases hx
        exact mem_addN.mpr (.inr hg)
    have IH := ih hφ cl'
    rw [etz, List.map_append, dd_app, dd_map_addN] at IH
    have hrow := hφ s hsr
    by_cases hold : φ s ∈ (f.take t).map φ
    · -- the class was done before
      have e1 : addN (dd ((f.take t).map φ)) ([s].map φ) = dd ((f.take t).map φ) := addN_in fun x hx => by
        have : x = φ s := by simpa using hx
        rw [this]; exact mem_dd.mpr hold
      have e2 : addN (dd (f.map φ)) ((M.row s).map φ) = dd (f.map φ) := addN_in fun x hx => by
        obtain ⟨s', hs', es'⟩ := List.mem_map.mp hold
        obtain ⟨j, hj⟩ := List.getElem?_of_mem hs'
        have hj1 : j < t := by
          have := (List.getElem?_eq_some_iff.mp hj).1
          rw [List.length_take] at this; omega
        rw [List.getElem?_take_of_lt hj1] at hj
        have hs'r : s' ∈ r := by rw [ey]; exact List.mem_append_left _ (mem_addN.mpr (.inl (List.mem_of_getElem? hj)))
        have hx' : x ∈ (M.row s').map φ := by rw [← hφ s' hs'r, es', hrow]; exact hx
        obtain ⟨g, hg, rfl⟩ := List.mem_map.mp hx'
        exact mem_dd.mpr (List.mem_map.mpr ⟨g, cl j s' hj1 hj g hg, rfl⟩)
      rw [e1, e2] at IH
      exact IH
    · -- a new class
      have e1 : addN (dd ((f.take t).map φ)) ([s].map φ) = dd ((f.take t).map φ) ++ [φ s] := by
        show addN _ [φ s] = _
        rw [addN_cons, if_neg (fun q => hold (mem_dd.mp q))]; rfl
      rw [e1, List.length_append, List.length_singleton] at IH
      have hat : (dd (f.map φ))[(dd ((f.take t).map φ)).length]? = some (φ s) := by
        obtain ⟨u, eu⟩ := dd_take_pre (f.map φ) (t + 1)
        rw [← List.map_take, et, List.map_append, dd_app, e1] at eu
        rw [eu, List.append_assoc, List.getElem?_append_right (Nat.le_refl _), Nat.sub_self]
        rfl
      refine .step hat ?_
      rw [hrow]
      exact IH
end Be

namespace Be
section
variable {α β : Type} [DecidableEq α] [DecidableEq β]
theorem dd_map_dd (φ : α → β) (l : List α) : dd ((dd l).map φ) = dd (l.map φ) := by
  show dd ((addN [] l).map φ) = _
  rw [dd_map_addN]; rfl
theorem addN_len : ∀ {l f : List α}, (addN f l).length ≤ f.length + l.length
  | [], f => by rw [addN_nil]; simp
  | a :: l, f => by
    rw [addN_cons, List.length_cons]
    by_cases h : a ∈ f
    · rw [if_pos h]; have := addN_len (l := l) (f := f); omega
    · rw [if_neg h]
      have := addN_len (l := l) (f := f ++ [a])
      rw [List.length_append, List.length_singleton] at this; omega
theorem idx_inj {l : List α} {a b : α} (ha : a ∈ l) (hb : b ∈ l) (h : l.idxOf a = l.idxOf b) : a = b := by
  have h1 : l[l.idxOf a]'(List.idxOf_lt_length_of_mem ha) = a := List.getElem_idxOf (List.idxOf_lt_length_of_mem ha)
  have h2 : l[l.idxOf b]'(List.idxOf_lt_length_of_mem hb) = b := List.getElem_idxOf (List.idxOf_lt_length_of_mem hb)
  rw [← h1, ← h2]
  congr 1
end
/-! ### groups, counted as they first come -/
def gnum {α : Type} [DecidableEq α] (ord : List Nat) (mark : Nat → α) (s : Nat) : Nat := (dd (ord.map mark)).idxOf (mark s)
theorem gnum_iff {α : Type} [DecidableEq α] {ord : List Nat} {mark : Nat → α} {p q : Nat} (hp : p ∈ ord) (hq : q ∈ ord) : gnum ord mark p = gnum ord mark q ↔ mark p = mark q := by
  constructor
  · exact idx_inj (mem_dd.mpr (List.mem_map.mpr ⟨p, hp, rfl⟩)) (mem_dd.mpr (List.mem_map.mpr ⟨q, hq, rfl⟩))
  · intro h; unfold gnum; rw [h]
/-- a coarser count is no greater; where it is the same the groups are the same -/
theorem coarser {ord : List Nat} {g h : Nat → Nat} (fin : ∀ p ∈ ord, ∀ q ∈ ord, g p = g q → h p = h q) : ∃ φ : Nat → Nat, (∀ s ∈ ord, φ (g s) = h s) ∧ dd (ord.map h) = dd ((dd (ord.map g)).map φ) := by
  refine ⟨fun v => h ((ord.find? fun s => g s = v).getD 0), fun s hs => ?_, ?_⟩
  · show h ((ord.find? fun s' => g s' = g s).getD 0) = h s
    cases e : ord.find? fun s' => g s' = g s with
    | none =>
      have := List.find?_eq_none.mp e s hs
      simp at this
    | some s' =>
      show h s' = h s
      have h1 := List.find?_some e
      exact fin s' (List.mem_of_find?_eq_some e) s hs (by simpa using h1)
  · rw [dd_map_dd, List.map_map]
    congr 1
    refine List.map_congr_left fun s hs => ?_
    show h s = h ((ord.find? fun s' => g s' = g s).getD 0)
    cases e : ord.find? fun s' => g s' = g s with
    | none =>
      have := List.find?_eq_none.mp e s hs
      simp at this
    | some s' =>
      show h s = h s'
      have h1 := List.find?_some e
      exact (fin s' (List.mem_of_find?_eq_some e) s hs (by simpa using h1)).symm
/-! ### refining -/
def mark1 (M : Mach) (g : Nat → Nat) (s : Nat) : Nat × List Nat := (g s, (M.row s).map g)
def G (M : Mach) (ord : List Nat) : Nat → Nat → Nat
  | 0 => gnum ord M.obs
  | n + 1 => gnum ord (mark1 M (G M ord n))
def cnt (ord : List Nat) (g : Nat → Nat) : Nat := (dd (ord.map g)).length
theorem G_eqs {M : Mach} {Bd : Nat} (ok : M.OkB Bd) {ord : List Nat} (cl : ∀ s ∈ ord, ∀ g ∈ M.row s, g ∈ ord) (lt : ∀ s ∈ ord, s < M.moves.length) : ∀ {n p q : Nat}, p ∈ ord → q ∈ ord → Eqs M M p q → G M ord n p = G M ord n q
  | 0, p, q, hp, hq, h => (gnum_iff hp hq).mpr h.obs
  | n + 1, p, q, hp, hq, h => by
    refine (gnum_iff hp hq).mpr ?_
    unfold mark1
    rw [G_eqs ok cl lt hp hq h]
    congr 1
    apply List.ext_getElem?
    intro i
    rw [List.getElem?_map, List.getElem?_map]
    have lp := (Mach.row_len ok (lt p hp)).1
    have lq := (Mach.row_len ok (lt q hq)).1
    by_cases hi : i < M.k * M.k
    · rw [Mach.go1_row ok (lt p hp) hi, Mach.go1_row ok (lt q hq) hi]
      show some (G M ord n _) = some (G M ord n _)
      congr 1
      exact G_eqs ok cl lt (cl p hp _ (List.mem_of_getElem? (Mach.go1_row ok (lt p hp) hi))) (cl q hq _ (List.mem_of_getElem? (Mach.go1_row ok (lt q hq) hi))) (h.step hi)
    · rw [List.getElem?_eq_none (by omega), List.getElem?_eq_none (by omega)]
/-- groups that hold under each step -/
structure Stable (M : Mach) (ord : List Nat) (g : Nat → Nat) : Prop where
  obs : ∀ p ∈ ord, ∀ q ∈ ord, g p = g q → M.obs p = M.obs q
  row : ∀ p ∈ ord, ∀ q ∈ ord, g p = g q → (M.row p).map g = (M.row q).map g
  num : ∃ c, dd (ord.map g) = List.range c
  eqs : ∀ p ∈ ord, ∀ q ∈ ord, Eqs M M p q → g p = g q
/-! ### the first of each group -/
def firsts (g : Nat → Nat) (ord : List Nat) : List Nat := ord.foldl (fun fs s => if g s = fs.length then fs ++ [s] else fs) []
theorem firsts_snoc (g : Nat → Nat) (ord : List Nat) (s : Nat) : firsts g (ord ++ [s]) = if g s = (firsts g ord).length then firsts g ord ++ [s] else firsts g ord := by
  unfold firsts; rw [List.foldl_append]; rfl
theorem firsts_spec {g : Nat → Nat} : ∀ (n : Nat) {ord : List Nat} {c : Nat}, ord.length = n → dd (ord.map g) = List.range c → (firsts g ord).map g = List.range c ∧ ∀ s ∈ firsts g ord, s ∈ ord
  | 0, ord, c, hn, h => by
    have : ord = [] := List.length_eq_zero_iff.mp hn
    subst this
    have h : ([] : List Nat) = List.range c := h
    exact ⟨h, fun s hs => by cases hs⟩
  | n + 1, ord, c, hn, h => by
    have hne : ord ≠ [] := by intro e; rw [e] at hn; cases hn
    have ho := (List.dropLast_concat_getLast hne).symm
    generalize ord.dropLast = o at ho
    generalize ord.getLast hne = s at ho
    subst ho
    have hol : o.length = n := by rw [List.length_append, List.length_singleton] at hn; omega
    rw [List.map_append, dd_app] at h
    have h : addN (dd (o.map g)) [g s] = List.range c := h
    rw [addN_cons, addN_nil] at h
    by_cases hin : g s ∈ dd (o.map g)
    · rw [if_pos hin] at h
      obtain ⟨h1, h2⟩ := firsts_spec n hol h
      have hlen : (firsts g o).length = c := by have := congrArg List.length h1; simpa using this
      have hlt : g s < c := by rw [h] at hin; exact List.mem_range.mp hin
      rw [firsts_snoc, if_neg (by omega)]
      exact ⟨h1, fun x hx => List.mem_append_left _ (h2 x hx)⟩
    · rw [if_neg hin] at h
      have hc : c = (dd (o.map g)).length + 1 := by have := congrArg List.length h; simpa using this.symm
      subst hc
      rw [List.range_succ] at h
      have h3 := List.append_inj h (by rw [List.length_range])
      obtain ⟨h1, h2⟩ := firsts_spec n hol h3.1
      have hlen : (firsts g o).length = (dd (o.map g)).length := by have := congrArg List.length h1; simpa using this
      have hgs : g s = (dd (o.map g)).length := by simpa using h3.2
      rw [firsts_snoc, if_pos (by omega), List.map_append, h1, List.range_succ]
      refine ⟨by rw [List.map_cons, hgs]; rfl, fun x hx => ?_⟩
      rcases List.mem_append.mp hx with q | q
      · exact List.mem_append_left _ (h2 x q)
      · exact List.mem_append_right _ q
end Be

namespace Be
/-- what is told as the least machine, by an order and groups -/
def lmach (M : Mach) (g : Nat → Nat) (ord : List Nat) : Mach :=
  ⟨M.letters, (firsts g ord).map fun s => (M.row s).map g, (firsts g ord).map fun s => M.ends.getD s false, (firsts g ord).map fun s => M.mids.getD s []⟩
theorem run_facts {M : Mach} {Bd : Nat} (ok : M.OkB Bd) {ord : List Nat} (h : Run M 0 [0] ord) : ord.Nodup ∧ (∀ s ∈ ord, s < M.moves.length) ∧ (∀ s ∈ ord, ∀ g ∈ M.row s, g ∈ ord) ∧ 0 ∈ ord ∧ ord[0]? = some 0 := by
  obtain ⟨h1, h2, h3⟩ := Run.inv ok h (by simp) (fun s hs => by rw [List.mem_singleton.mp hs]; exact ok.n1) (fun j s hj => by omega)
  obtain ⟨z, e⟩ := Run.pre h
  exact ⟨h1, h2, h3, by rw [e]; simp, by rw [e]; rfl⟩
theorem dd_head {l : List Nat} {x : Nat} (h : l[0]? = some x) : (dd l)[0]? = some x := by
  cases l with
  | nil => simp at h
  | cons a r =>
    simp at h
    subst h
    show (addN [] (a :: r))[0]? = _
    rw [addN_cons, if_neg (by simp)]
    obtain ⟨z, e⟩ := addN_pre r [a]
    show (addN [a] r)[0]? = _
    rw [e]; rfl
structure LeastBy (M : Mach) (g : Nat → Nat) (ord : List Nat) : Prop where
  ok : M.OkB 2000
  few : (firsts g ord).length ≤ 40
  run : Run M 0 [0] ord
  st : Stable M ord g
section
variable {M : Mach} {g : Nat → Nat} {ord : List Nat}
theorem LeastBy.num (L : LeastBy M g ord) : dd (ord.map g) = List.range (firsts g ord).length ∧ (firsts g ord).map g = List.range (firsts g ord).length ∧ ∀ s ∈ firsts g ord, s ∈ ord := by
  obtain ⟨c, hc⟩ := L.st.num
  obtain ⟨h1, h2⟩ := firsts_spec _ rfl hc
  have hl : (firsts g ord).length = c := by have := congrArg List.length h1; simpa using this
  rw [hl]
  exact ⟨hc, h1, h2⟩
theorem LeastBy.g0 (L : LeastBy M g ord) : g 0 = 0 := by
  obtain ⟨h1, _, _⟩ := L.num
  obtain ⟨_, _, _, h0, hh⟩ := run_facts L.ok L.run
  have := dd_head (l := ord.map g) (x := g 0) (by rw [List.getElem?_map, hh]; rfl)
  rw [h1] at this
  cases hc : (firsts g ord).length with
  | zero => rw [hc] at this; simp at this
  | succ n => rw [hc] at this; rw [List.getElem?_range (by omega)] at this; exact (Option.some.inj this).symm
theorem LeastBy.lt (L : LeastBy M g ord) {s : Nat} (hs : s ∈ ord) : g s < (firsts g ord).length := by
  have : g s ∈ dd (ord.map g) := mem_dd.mpr (List.mem_map.mpr ⟨s, hs, rfl⟩)
  rw [L.num.1] at this
  exact List.mem_range.mp this
/-- the first state of a state's group -/
theorem LeastBy.rep (L : LeastBy M g ord) {s : Nat} (hs : s ∈ ord) : ∃ t, (firsts g ord)[g s]? = some t ∧ t ∈ ord ∧ g t = g s := by
  have hl := L.lt hs
  refine ⟨(firsts g ord)[g s], List.getElem?_eq_getElem hl, L.num.2.2 _ (List.getElem_mem hl), ?_⟩
  have e := congrArg (fun l => l[g s]?) L.num.2.1
  simp only [List.getElem?_map, List.getElem?_eq_getElem hl, Option.map_some, List.getElem?_range hl] at e
  exact Option.some.inj e
theorem LeastBy.row (L : LeastBy M g ord) {s : Nat} (hs : s ∈ ord) : (lmach M g ord).row (g s) = (M.row s).map g := by
  obtain ⟨t, e, ht, eg⟩ := L.rep hs
  unfold Mach.row lmach
  rw [List.getD_eq_getElem?_getD, List.getElem?_map, e]
  exact L.st.row t ht s hs eg
theorem LeastBy.obs (L : LeastBy M g ord) {s : Nat} (hs : s ∈ ord) : (lmach M g ord).obs (g s) = M.obs s := by
  obtain ⟨t, e, ht, eg⟩ := L.rep hs
  rw [← L.st.obs t ht s hs eg]
  unfold Mach.obs lmach
  rw [List.getD_eq_getElem?_getD, List.getD_eq_getElem?_getD, List.getElem?_map, List.getElem?_map, e]
  rfl
theorem LeastBy.pos (L : LeastBy M g ord) : 1 ≤ (firsts g ord).length := by
  have := L.lt (run_facts L.ok L.run).2.2.2.1
  omega
theorem nodup_le {l : List Nat} {n : Nat} (nd : l.Nodup) (h : ∀ x ∈ l, x < n) : l.length ≤ n := by
  have : (dd l).length = l.length := by rw [dd_self nd]
  have h2 : dd (List.range n ++ l) = List.range n := by
    rw [dd_app, dd_self List.nodup_range]
    exact addN_in fun x hx => List.mem_range.mpr (h x hx)
  have h3 := List.Nodup.length_le_of_subset nd (l₂ := List.range n) fun x hx => List.mem_range.mpr (h x hx)
  rwa [List.length_range] at h3
theorem LeastBy.lok (L : LeastBy M g ord) : (lmach M g ord).Ok := by
  obtain ⟨nd, lt, cl, h0, hh⟩ := run_facts L.ok L.run
  have hle : (firsts g ord).length ≤ ord.length := by
    have h1 := congrArg List.length L.num.1
    have h2 := addN_len (l := ord.map g) (f := ([] : List Nat))
    rw [List.length_nil, Nat.zero_add, List.length_map] at h2
    rw [List.length_range] at h1
    have h3 : (dd (ord.map g)).length ≤ ord.length := h2
    omega
  have hol : ord.length ≤ M.moves.length := nodup_le nd lt
  have hn : (lmach M g ord).moves.length = (firsts g ord).length := by show ((firsts g ord).map _).length = _; rw [List.length_map]
  refine ⟨L.ok.let_, ?_, ?_, ?_, ?_, ?_, ?_⟩
  · rw [hn]; exact L.pos
  · rw [hn]; exact L.few
  · intro r hr
    rw [hn]
    obtain ⟨s, hs, rfl⟩ := List.mem_map.mp (show r ∈ (firsts g ord).map fun s => (M.row s).map g from hr)
    have hso := L.num.2.2 s hs
    refine ⟨by rw [List.length_map]; exact (Mach.row_len L.ok (lt s hso)).1, fun x hx => ?_⟩
    obtain ⟨y, hy, rfl⟩ := List.mem_map.mp hx
    exact L.lt (cl s hso y hy)
  · rw [hn]; show ((firsts g ord).map _).length = _; rw [List.length_map]
  · rw [hn]; show ((firsts g ord).map _).length = _; rw [List.length_map]
  · intro r hr
    obtain ⟨s, hs, rfl⟩ := List.mem_map.mp (show r ∈ (firsts g ord).map fun s => M.mids.getD s [] from hr)
    have hlt : s < M.mids.length := by rw [L.ok.mids]; exact lt s (L.num.2.2 s hs)
    have e : M.mids.getD s [] = M.mids[s]'hlt := by rw [List.getD_eq_getElem?_getD, List.getElem?_eq_getElem hlt, Option.getD_some]
    rw [e]
    exact L.ok.mrows _ (List.getElem_mem hlt)
theorem LeastBy.lrun (L : LeastBy M g ord) : Run (lmach M g ord) 0 [0] (List.range (lmach M g ord).moves.length) := by
  have h := Run.image (N := lmach M g ord) (φ := g) L.run (fun s hs => L.row hs) (fun j s hj => by omega)
  have hn : (lmach M g ord).moves.length = (firsts g ord).length := by show ((firsts g ord).map _).length = _; rw [List.length_map]
  rw [L.num.1, ← hn] at h
  have e : dd ([0].map g) = [0] := by show dd [g 0] = _; rw [L.g0]; rfl
  rw [e] at h
  exact h
theorem LeastBy.go (L : LeastBy M g ord) : ∀ {is : List Nat} {s : Nat}, s ∈ ord → M.Stp is → (lmach M g ord).go (g s) is = g (M.go s is) ∧ M.go s is ∈ ord
  | [], s, hs, _ => ⟨rfl, hs⟩
  | i :: is, s, hs, h => by
    obtain ⟨nd, lt, cl, h0, hh⟩ := run_facts L.ok L.run
    have hi := h i (List.mem_cons_self ..)
    have r1 := Mach.go1_row L.ok (lt s hs) hi
    have hm : M.go1 s i ∈ ord := cl s hs _ (List.mem_of_getElem? r1)
    have e : (lmach M g ord).go1 (g s) i = g (M.go1 s i) := by
      unfold Mach.go1
      rw [L.row hs, List.getD_eq_getElem?_getD, List.getElem?_map, r1]; rfl
    show (lmach M g ord).go ((lmach M g ord).go1 (g s) i) is = g (M.go (M.go1 s i) is) ∧ M.go (M.go1 s i) is ∈ ord
    rw [e]
    exact LeastBy.go L hm fun j hj => h j (List.mem_cons_of_mem _ hj)
theorem LeastBy.eqs (L : LeastBy M g ord) {s : Nat} (hs : s ∈ ord) : Eqs M (lmach M g ord) s (g s) := fun is h => by
  obtain ⟨e, m⟩ := L.go hs h
  rw [e, L.obs m]
theorem LeastBy.lmin (L : LeastBy M g ord) {i j : Nat} (hi : i < (lmach M g ord).moves.length) (hj : j < (lmach M g ord).moves.length) (h : Eqs (lmach M g ord) (lmach M g ord) i j) : i = j := by
  have hn : (lmach M g ord).moves.length = (firsts g ord).length := by show ((firsts g ord).map _).length = _; rw [List.length_map]
  rw [hn] at hi hj
  have gi : ∀ {i : Nat} (hi : i < (firsts g ord).length), g ((firsts g ord)[i]'hi) = i := fun {i} hi => by
    have e := congrArg (fun l => l[i]?) L.num.2.1
    simp only [List.getElem?_map, List.getElem?_eq_getElem hi, Option.map_some, List.getElem?_range hi] at e
    exact Option.some.inj e
  have si := L.num.2.2 _ (List.getElem_mem hi)
  have sj := L.num.2.2 _ (List.getElem_mem hj)
  have e1 := L.eqs si
  have e2 := L.eqs sj
  rw [gi hi] at e1
  rw [gi hj] at e2
  have hk : M.k = (lmach M g ord).k := rfl
  have e3 : Eqs M M _ _ := Eqs.trans hk (Eqs.trans hk e1 h) (Eqs.symm hk e2)
  have := L.st.eqs _ si _ sj e3
  rw [gi hi, gi hj] at this
  exact this
end
/-- a least machine, its states counted as they are first come by -/
structure IsLeast (N : Mach) : Prop where
  ok : N.Ok
  run : Run N 0 [0] (List.range N.moves.length)
  min : ∀ i j, i < N.moves.length → j < N.moves.length → Eqs N N i j → i = j
theorem LeastBy.isLeast {M : Mach} {g : Nat → Nat} {ord : List Nat} (L : LeastBy M g ord) : IsLeast (lmach M g ord) := ⟨L.lok, L.lrun, fun i j hi hj h => L.lmin hi hj h⟩
theorem Run.reach {M : Mach} {Bd : Nat} (ok : M.OkB Bd) {t : Nat} {f r : List Nat} (h : Run M t f r) : (∀ s ∈ f, s < M.moves.length) → (∀ s ∈ f, ∃ is, M.Stp is ∧ M.go 0 is = s) → ∀ s ∈ r, ∃ is, M.Stp is ∧ M.go 0 is = s := by
  induction h with
  | stop _ => intro _ h; exact h
  | @step t f r s e _ ih =>
    intro lt h
    have hs := List.mem_of_getElem? e
    refine ih (fun x hx => ?_) (fun x hx => ?_)
    · rcases mem_addN.mp hx with q | q
      · exact lt x q
      · exact (Mach.row_len ok (lt s hs)).2.1 x q
    · rcases mem_addN.mp hx with q | q
      · exact h x q
      · obtain ⟨is, h1, h2⟩ := h s hs
        obtain ⟨i, hi⟩ := List.getElem?_of_mem q
        have hil : i < M.k * M.k := by
          have := (List.getElem?_eq_some_iff.mp hi).1
          rw [(Mach.row_len ok (lt s hs)).1] at this; exact this
        refine ⟨is ++ [i], fun j hj => ?_, ?_⟩
        · rcases List.mem_append.mp hj with q | q
          · exact h1 j q
          · rw [List.mem_singleton.mp q]; exact hil
        · unfold Mach.go at h2 ⊢
          rw [List.foldl_append, h2]
          have := Mach.go1_row ok (lt s hs) hil
          rw [hi] at this
          exact (Option.some.inj this).symm
theorem Eqs.go {M N : Mach} {p q : Nat} (h : Eqs M N p q) : ∀ {is : List Nat}, M.Stp is → Eqs M N (M.go p is) (N.go q is) := fun {is} hs js hj => by
  have := h (is ++ js) fun i hi => by
    rcases List.mem_append.mp hi with q | q
    · exact hs i q
    · exact hj i q
  unfold Mach.go at this ⊢
  rw [List.foldl_append, List.foldl_append] at this
  exact this
end Be

/-! Sets of whole numbers; a def's body with its code known. -/
namespace L2
open PySem PySem.Spec PyProof.Rows
section
variable {X : Cx}
end
end L2

/-! Keys that are pairs: a truth or a number, and a tuple of such. -/
namespace PySem
open Sem (wp)
section
variable {prog : Program} {w : World} {A : Around} {E : Value → Shared → Prop} {s : Shared}
end
section
variable {prog : Program} {w : World} {K : Type} [DecidableEq K] (knd : KeyKind prog w K)
def IsPairKey (h : Heap) (k : K × List K) (a : Addr) : Prop := ∃ o b n v, h.get? a = some o ∧ o.cls = .type "tuple" ∧ o.data = .seq #[v, .ref b] n ∧ knd.is k.1 v = true ∧ IsTupleKey knd h k.2 b
variable {knd}
theorem IsPairKey.typeIs {s : Shared} {k : K × List K} {a : Addr} (x : IsPairKey knd s.heap k a) : s.TypeIs (.ref a) "tuple" := let ⟨o, _, _, _, ho, hc, _⟩ := x; ⟨o, ho, hc⟩
theorem IsPairKey.inj {h : Heap} {a : Addr} {x y : K × List K} (hx : IsPairKey knd h x a) (hy : IsPairKey knd h y a) : x = y := by
  obtain ⟨o, b, n, v, ho, _, hd, hi, ht⟩ := hx
  obtain ⟨o', b', n', v', ho', _, hd', hi', ht'⟩ := hy
  obtain rfl : o = o' := Option.some.inj (ho.symm.trans ho')
  rw [hd] at hd'
  injection hd' with h1 _
  have e : [v, Value.ref b] = [v', Value.ref b'] := congrArg Array.toList h1
  injection e with e1 e2
  injection e2 with e2 _
  injection e2 with e2
  subst e1; subst e2
  obtain ⟨x1, x2⟩ := x
  obtain ⟨y1, y2⟩ := y
  have e1 : x1 = y1 := knd.inj _ _ _ hi hi'
  have e2 : x2 = y2 := ht.inj ht'
  subst e1; subst e2; rfl
theorem IsPairKey.keeps {h h' : Heap} {k : K × List K} {a d : Addr} {o : Obj} {es ep} (x : IsPairKey knd h k a) (ho : h.get? d = some o) (hd : o.data = .dict es ep) (hs : Heap.SameBut d h h') : IsPairKey knd h' k a := by
  obtain ⟨o', b, n, v, ho', hc, hd', hi, ht⟩ := x
  have hne : a ≠ d := by
    rintro rfl
    obtain rfl : o' = o := Option.some.inj (ho'.symm.trans ho)
    rw [hd] at hd'; exact nomatch hd'
  exact ⟨o', b, n, v, (hs.2 a hne).trans ho', hc, hd', hi, ht.keeps ho hd hs⟩
variable {A : Around} {E : Value → Shared → Prop} {s : Shared}
end
end PySem

/-! Pairs as keys of a dict: the kind, and setdefault. -/
namespace PySem
open Sem (wp)
section
variable {prog : Program} {w : World} {K : Type} [DecidableEq K] {knd : KeyKind prog w K} {A : Around} {E : Value → Shared → Prop} {s : Shared}
end
section
variable {prog : Program} {w : World} {K : Type} [DecidableEq K] {knd : HeapKind prog w K} {A : Around} {E : Value → Shared → Prop} {s : Shared}
end
end PySem

/-! {k: v for x in xs if ..}: a new dict whose keys are ints and texts. -/
namespace L2
open PySem PySem.Spec PyProof.Rows
section
variable {X : Cx} {pins : List (Addr × Obj)} {σ : St} {H : Hp} {s : Shared}
end
section
variable {X : Cx}
end
end L2

/-! A dict whose keys are pairs (a value, a tuple of values): {}, len, setdefault; max(d.values()). -/
namespace PySem
open Sem (wp)
section
variable {prog : Program} {w : World} {K : Type} [DecidableEq K] {knd : HeapKind prog w K} {A : Around} {E : Value → Shared → Prop} {s : Shared}
end
end PySem
namespace L2
open PySem PySem.Spec PyProof.Rows
theorem pairedApp {α β : Type} {F : α → β → Prop} : ∀ {l₁ : List α} {m₁ : List β} {l₂ : List α} {m₂ : List β}, Paired F l₁ m₁ → Paired F l₂ m₂ → Paired F (l₁ ++ l₂) (m₁ ++ m₂)
  | _, _, _, _, .nil, r => r
  | _, _, _, _, .cons h t, r => .cons h (pairedApp t r)
/-- a kind of plain values, as they are read -/
structure Knd (P : Program) (w : World) (K : Type) [DecidableEq K] where
  knd : KeyKind P w K
  toV : K → V
  is : ∀ {k u}, RelV (toV k) u → knd.is k u = true
/-- a key: a tuple of a value and a tuple -/
def KeyAt {K : Type} (toV : K → V) (H : Hp) (k : K × List K) (b : Addr) : Prop := ∃ t, H b = some (.tup [toV k.1, .ref t]) ∧ H t = some (.tup (k.2.map toV))
abbrev PEnt (K : Type) := (K × List K) × Addr × V
section
variable {P : Program} {w : World} {K : Type} [DecidableEq K] (D : Knd P w K)
variable {D}
/-- what stands under a key -/
def pAt (xs : List (PEnt K)) (k : K × List K) : Option V := (xs.find? fun x => decide (x.1 = k)).map (·.2.2)
end
section
variable {X : Cx} {K : Type} [DecidableEq K]
end
/-! ### max(d.values()) -/
section
variable {X : Cx}
end
end L2

namespace Be
open PySem L2
section
variable {P : Program} {w : World} {K : PySem.W.Frag} {mg : Str → Option Value} {base : Heap}
/-! ### come_by -/
end
end Be

namespace PySem
end PySem
namespace Be
open PySem L2
theorem KeyAt.same {α : Type} {toV : α → V} {H H' : Hp} {k : α × List α} {b : Addr} (s : Same H H') (h : KeyAt toV H k b) : KeyAt toV H' k b :=
  let ⟨t, h1, h2⟩ := h; ⟨t, s _ _ h1, s _ _ h2⟩
section
variable {α : Type} [DecidableEq α]
/-- the first place -/
def ixOf (l : List α) (k : α) : Nat := l.idxOf k
theorem ix_self {k : α} {l : List α} : ixOf (k :: l) k = 0 := List.idxOf_cons_self
theorem ix_ne {x k : α} {l : List α} (h : ¬ x = k) : ixOf (x :: l) k = ixOf l k + 1 := by
  unfold ixOf
  rw [List.idxOf_cons]
  have e : (x == k) = false := beq_eq_false_iff_ne.mpr h
  rw [e]; rfl
theorem dd_len (l : List α) : (dd l).length ≤ l.length := by
  have := addN_len (l := l) (f := ([] : List α))
  rw [List.length_nil, Nat.zero_add] at this
  exact this
/-- entries with their places as values -/
structure EsOk (es : List (PEnt α)) (ks : List (α × List α)) : Prop where
  keys : es.map (·.1) = ks
  vals : ∀ j e, es[j]? = some e → e.2.2 = V.int ((j : Nat) : Int)
theorem pAt_from (k : α × List α) : ∀ (es : List (PEnt α)) (o : Nat), (∀ j e, es[j]? = some e → e.2.2 = V.int ((o + j : Nat) : Int)) →
    (k ∈ es.map (·.1) → pAt es k = some (V.int ((o + ixOf (es.map (·.1)) k : Nat) : Int))) ∧ (k ∉ es.map (·.1) → pAt es k = none)
  | [], o, _ => ⟨(fun h => by cases h), fun _ => rfl⟩
  | x :: es, o, h => by
    have ih := pAt_from k es (o + 1) fun j e hj => by
      have := h (j + 1) e (by simpa using hj)
      rw [this]; congr 2; omega
    have h0 := h 0 x rfl
    unfold pAt at ih ⊢
    rw [List.find?_cons, List.map_cons]
    by_cases e : x.1 = k
    · rw [decide_eq_true e]
      refine ⟨fun _ => ?_, fun hn => absurd (by rw [e]; exact List.mem_cons_self) hn⟩
      rw [← e, ix_self]
      show some x.2.2 = _
      rw [h0]
    · rw [decide_eq_false e]
      refine ⟨fun hm => ?_, fun hn => ih.2 fun z => hn (List.mem_cons_of_mem _ z)⟩
      rcases List.mem_cons.mp hm with z | z
      · exact absurd z.symm e
      · refine (ih.1 z).trans ?_
        rw [ix_ne e]
        congr 3; omega
theorem EsOk.at {es : List (PEnt α)} {ks : List (α × List α)} (h : EsOk es ks) (k : α × List α) : (k ∈ ks → pAt es k = some (V.int ((ixOf ks k : Nat) : Int))) ∧ (k ∉ ks → pAt es k = none) := by
  have := pAt_from k es 0 fun j e hj => by rw [h.vals j e hj, Nat.zero_add]
  rw [h.keys] at this
  simpa only [Nat.zero_add] using this
theorem EsOk.snoc {es : List (PEnt α)} {ks : List (α × List α)} (h : EsOk es ks) (k : α × List α) (b : Addr) : EsOk (es ++ [(k, b, .int (es.length : Nat))]) (ks ++ [k]) := by
  refine ⟨by rw [List.map_append, h.keys]; rfl, fun j e hj => ?_⟩
  by_cases hl : j < es.length
  · rw [List.getElem?_append_left hl] at hj
    exact h.vals j e hj
  · have hj' := (List.getElem?_eq_some_iff.mp hj).1
    rw [List.length_append, List.length_singleton] at hj'
    have : j = es.length := by omega
    subst this
    rw [List.getElem?_append_right (Nat.le_refl _), Nat.sub_self] at hj
    cases Option.some.inj hj
    rfl
end
section
variable {P : Program} {w : World} {K : PySem.W.Frag} {mg : Str → Option Value} {base : Heap}
/-! ### grouped -/
end
end Be

namespace L2
open PySem PySem.Spec PyProof.Rows
section
variable {X : Cx}
theorem pi_listK (K : PySem.W.Frag) {tg l : Expr} {tl : TE} (hl : PE X l tl) (hK : X.K = K := by rfl) : PI X tg l (iList K tl) := by subst hK; exact pi_list hl
end
def env0 (sc : Scope) : Env := { scope := sc, locals := 0, globals := 0, cells := [] }
end L2
namespace Be
open PySem L2
/-- kept where D alone is changed, which is no tuple -/
theorem KeyAt.put {α : Type} {toV : α → V} {H : Hp} {k : α × List α} {b D : Addr} {o u : HO} (h : KeyAt toV H k b) (hD : H D = some o) (ho : ∀ xs, o ≠ .tup xs) : KeyAt toV (upd H D u) k b := by
  obtain ⟨t, h1, h2⟩ := h
  exact ⟨t, by rw [upd_ne (ne_of h1 hD (fun e => ho _ e.symm))]; exact h1, by rw [upd_ne (ne_of h2 hD (fun e => ho _ e.symm))]; exact h2⟩
section
variable {P : Program} {w : World} {K : PySem.W.Frag} {mg : Str → Option Value} {base : Heap}
/-- marks stand in a dict -/
def MarksAt {α : Type} (toV : α → V) (H : Hp) (kvs : List (Key × V)) (ord : List Nat) (mark : Nat → α × List α) : Prop :=
  ∀ s ∈ ord, ∃ b, valV kvs (Sum.inl ((s : Nat) : Int)) = some (.ref b) ∧ KeyAt toV H (mark s) b
theorem MarksAt.same {α : Type} {toV : α → V} {H H' : Hp} {kvs : List (Key × V)} {ord : List Nat} {mark : Nat → α × List α} (s : Same H H') (h : MarksAt toV H kvs ord mark) : MarksAt toV H' kvs ord mark := fun x hx =>
  let ⟨b, h1, h2⟩ := h x hx; ⟨b, h1, KeyAt.same s h2⟩
theorem MarksAt.put {α : Type} {toV : α → V} {H : Hp} {kvs : List (Key × V)} {ord : List Nat} {mark : Nat → α × List α} {D b : Addr} {x : Nat} (h : MarksAt toV H kvs ord mark) (hD : H D = some (.dK kvs)) (hb : KeyAt toV H (mark x) b) :
    MarksAt toV (upd H D (.dK (putK kvs (Sum.inl ((x : Nat) : Int)) (.ref b)))) (putK kvs (Sum.inl ((x : Nat) : Int)) (.ref b)) (ord ++ [x]) mark := fun y hy => by
  rw [valV_put]
  by_cases e : y = x
  · subst e
    exact ⟨b, if_pos rfl, KeyAt.put hb hD fun xs z => nomatch z⟩
  · rw [if_neg (fun z => e (by injection z with z; omega))]
    rcases List.mem_append.mp hy with z | z
    · obtain ⟨b', h1, h2⟩ := h y z
      exact ⟨b', h1, KeyAt.put h2 hD fun xs z => nomatch z⟩
    · exact absurd (List.mem_singleton.mp z) e
/-! ### marks_by_move -/
abbrev NK : List Str := ["order", "moves", "groups", "state", "goal"]
end
end Be

namespace Be
open PySem L2
/-- some machine of at most forty states has the same words -/
def Few (M : Mach) : Prop := ∃ N : Mach, N.Ok ∧ N.k = M.k ∧ Eqs M N 0 0
theorem Few.cnt {M : Mach} {Bd : Nat} (ok : M.OkB Bd) (h : Few M) {ord : List Nat} (hrun : Run M 0 [0] ord) (t : Nat) : cnt ord (G M ord t) ≤ 40 := by
  obtain ⟨N, okN, ek, e⟩ := h
  obtain ⟨nd, lt, cl, h0, _⟩ := run_facts ok hrun
  have reach : ∀ s ∈ ord, ∃ is, M.Stp is ∧ M.go 0 is = s := Run.reach ok hrun (fun s hs => by rw [List.mem_singleton.mp hs]; exact ok.n1) (fun s hs => ⟨[], (fun _ h => by cases h), (by rw [List.mem_singleton.mp hs]; rfl)⟩)
  obtain ⟨ψ, hψ⟩ : ∃ ψ : Nat → Nat, ∀ s ∈ ord, ∃ is, M.Stp is ∧ M.go 0 is = s ∧ ψ s = N.go 0 is :=
    ⟨fun s => if h : s ∈ ord then N.go 0 (Classical.choose (reach s h)) else 0, fun s hs => ⟨_, (Classical.choose_spec (reach s hs)).1, (Classical.choose_spec (reach s hs)).2, dif_pos hs⟩⟩
  have hE : ∀ s ∈ ord, Eqs M N s (ψ s) := fun s hs => by
    obtain ⟨is, h1, h2, h3⟩ := hψ s hs
    rw [h3, ← h2]; exact e.go h1
  have fin : ∀ p ∈ ord, ∀ q ∈ ord, ψ p = ψ q → G M ord t p = G M ord t q := fun p hp q hq z =>
    G_eqs ok cl lt hp hq (Eqs.trans ek.symm (hE p hp) (by rw [z]; exact (hE q hq).symm ek.symm))
  obtain ⟨φ, _, hφ⟩ := coarser fin
  unfold Be.cnt
  rw [hφ]
  refine Nat.le_trans (dd_len _) ?_
  rw [List.length_map]
  refine Nat.le_trans (nodup_le (dd_nodup _) (n := N.moves.length) fun x hx => ?_) okN.n40
  obtain ⟨s, hs, rfl⟩ := List.mem_map.mp (mem_dd.mp hx)
  obtain ⟨is, h1, _, h3⟩ := hψ s hs
  rw [h3]
  exact Mach.go_lt okN okN.n1 fun i hi => by rw [ek]; exact h1 i hi
theorem Few.eqs {M N : Mach} (ek : N.k = M.k) (h : Few M) (e : Eqs M N 0 0) : Few N := by
  obtain ⟨O, okO, eO, q⟩ := h
  exact ⟨O, okO, eO.trans ek.symm, Eqs.trans ek (e.symm ek.symm) q⟩
section
variable {P : Program} {w : World} {K : PySem.W.Frag} {mg : Str → Option Value} {base : Heap}
/-! ### alike_groups -/
end
end Be

namespace Be
open PySem L2
/-- a machine at v, all its lists new since H0 -/
def MNew (H0 H : Hp) (v : V) (M : Mach) : Prop :=
  ∃ (a pm pe pq : Addr) (rs qs : List V), v = .ref a ∧ H a = some (.tup [.str M.letters, .ref pm, .ref pe, .ref pq]) ∧ H pm = some (.lst rs) ∧ Rows H rs (M.moves.map vI) ∧
    H pe = some (.lst (vB M.ends)) ∧ H pq = some (.lst qs) ∧ Rows H qs (M.mids.map vB) ∧ H0 a = none ∧ H0 pm = none ∧ H0 pe = none ∧ H0 pq = none ∧
    (∀ r ∈ rs, ∃ p, r = .ref p ∧ H0 p = none) ∧ (∀ r ∈ qs, ∃ p, r = .ref p ∧ H0 p = none)
/-- new rows so far -/
abbrev CopF (H0 H : Hp) (D : Addr) (xss : List (List V)) (i : Nat) (H' : Hp) : Prop := Same H H' ∧ ∃ rs, H' D = some (.lst rs) ∧ Rows (msk H' [D]) rs (xss.take i) ∧ ∀ r ∈ rs, ∃ p, r = .ref p ∧ H0 p = none
theorem CopF.next {H0 H H1 H2 : Hp} {D : Addr} {xss : List (List V)} {i : Nat} {xs : List V} {l : Addr} (s0 : Same H0 H) (hD : H D = none) (h : CopF H0 H D xss i H1) (hx : xss[i]? = some xs) (s2 : Same H1 H2) (hl : H1 l = none) (hl2 : H2 l = some (.lst xs)) (hi : i ≤ 10000) :
    ∃ acc, H2 D = some (.lst acc) ∧ acc.length < sizeLine ∧ CopF H0 H D xss (i + 1) (upd H2 D (.lst (acc ++ [.ref l]))) := by
  obtain ⟨s, rs, h1, h2, h3⟩ := h
  have ne : D ≠ l := ne_of_none h1 hl
  have hlt : i < xss.length := (List.getElem?_eq_some_iff.mp hx).1
  have hrl : rs.length = i := by rw [h2.len, List.length_take]; omega
  refine ⟨rs, s2 _ _ h1, by rw [hrl]; exact sz_lt (by omega), Same.put (s.trans s2) hD, rs ++ [.ref l], upd_same, ?_, fun r hr => ?_⟩
  · rw [msk_upd (List.mem_singleton.mpr rfl), List.take_succ_eq_append_getElem hlt, (List.getElem?_eq_some_iff.mp hx).2]
    exact RowsM.snoc (h2.same (msk_same s2)) (fun q => ne (List.mem_singleton.mp q).symm) hl2
  · rcases List.mem_append.mp hr with z | z
    · exact h3 r z
    · exact ⟨l, List.mem_singleton.mp z, (s0.trans s).free hl⟩
section
variable {P : Program} {w : World} {K : PySem.W.Frag} {mg : Str → Option Value} {base : Heap}
/-! ### first_of_each -/
/-! ### least_alike -/
/-! ### least -/
theorem MNew.back {H0 H1 H : Hp} {v : V} {M : Mach} (s : Same H0 H1) (h : MNew H1 H v M) : MNew H0 H v M := by
  obtain ⟨a, pm, pe, pq, rs, qs, e, h1, h2, h3, h4, h5, h6, f1, f2, f3, f4, f5, f6⟩ := h
  exact ⟨a, pm, pe, pq, rs, qs, e, h1, h2, h3, h4, h5, h6, s.free f1, s.free f2, s.free f3, s.free f4, fun r hr => let ⟨p, q1, q2⟩ := f5 r hr; ⟨p, q1, s.free q2⟩, fun r hr => let ⟨p, q1, q2⟩ := f6 r hr; ⟨p, q1, s.free q2⟩⟩
end
end Be

/-! Comprehensions with two fors. -/
namespace L2
open PySem PySem.Spec PyProof.Rows
theorem lc2_in {J1 : It} {n : Nat} {g1 : TG} {tt1 : TT} {te : TE} {vs1 : List Nat} {σ2 : St} {H4 : Hp} {D : Addr} {Nx : Hp → Prop} (Pw : Nat → Hp → Prop) (h0 : Pw 0 H4) (hgo : ∀ j H, j < n → Pw j H → J1.go j H) (hst : ∀ H, Pw n H → J1.stop n H)
    (hs : ∀ j x H H', j < n → Pw j H → J1.yld j H x H' → g1 x (wipe σ2 vs1) H' fun σ3 H5 => wipe σ3 vs1 = wipe σ2 vs1 ∧ tt1 σ3 H5 fun b H6 =>
      if b = true then te σ3 H6 fun y H7 => ∃ acc, H7 D = some (.lst acc) ∧ acc.length < sizeLine ∧ Pw (j + 1) (upd H7 D (.lst (acc ++ [y]))) else Pw (j + 1) H6) (hd : ∀ H, Pw n H → Nx H) :
    ∃ W1 : Nat → Nat → Hp → Prop, (∃ m, W1 0 m H4) ∧ ∀ j k H, W1 j k H →
      (J1.stop j H ∧ Nx H) ∨ (J1.go j H ∧ ∃ Nx1 : Hp → Prop, (∀ H', Nx1 H' → ∃ k', k' < k ∧ W1 (j + 1) k' H') ∧ ∀ x H', J1.yld j H x H' → g1 x (wipe σ2 vs1) H' fun σ3 H5 => wipe σ3 vs1 = wipe σ2 vs1 ∧ tt1 σ3 H5 fun b H6 =>
        if b = true then te σ3 H6 fun y H7 => ∃ acc, H7 D = some (.lst acc) ∧ acc.length < sizeLine ∧ Nx1 (upd H7 D (.lst (acc ++ [y]))) else Nx1 H6) := by
  refine ⟨fun j m H => m = n - j ∧ j ≤ n ∧ Pw j H, ⟨n, by simp, Nat.zero_le _, h0⟩, ?_⟩
  rintro j m H ⟨rfl, hj, p⟩
  by_cases hlt : j < n
  · exact .inr ⟨hgo j H hlt p, Pw (j + 1), fun H' p' => ⟨n - (j + 1), by omega, rfl, hlt, p'⟩, fun x H' y => hs j x H H' hlt p y⟩
  · have e : j = n := by omega
    subst e
    exact .inl ⟨hst H p, hd H p⟩
theorem lc2_out {J : It} {n : Nat} {g : TG} {tt : TT} {wi1 : TI} {g1 : TG} {tt1 : TT} {te : TE} {vs vs1 : List Nat} {σ : St} {H1 : Hp} {D : Addr} {Qd : Hp → Prop} (Pv : Nat → Hp → Prop) (h0 : Pv 0 (upd H1 D (.lst []))) (hgo : ∀ i H, i < n → Pv i H → J.go i H) (hst : ∀ H, Pv n H → J.stop n H)
    (hs : ∀ i x H H', i < n → Pv i H → J.yld i H x H' → g x (wipe σ vs) H' fun σ2 H2 => wipe σ2 vs = wipe σ vs ∧ tt σ2 H2 fun b H3 =>
      if b = true then wi1 σ2 H3 fun J1 H4 => ∃ W1 : Nat → Nat → Hp → Prop, (∃ m, W1 0 m H4) ∧ ∀ j k H, W1 j k H →
        (J1.stop j H ∧ Pv (i + 1) H) ∨ (J1.go j H ∧ ∃ Nx1 : Hp → Prop, (∀ H', Nx1 H' → ∃ k', k' < k ∧ W1 (j + 1) k' H') ∧ ∀ x H', J1.yld j H x H' → g1 x (wipe σ2 vs1) H' fun σ3 H5 => wipe σ3 vs1 = wipe σ2 vs1 ∧ tt1 σ3 H5 fun b H6 =>
          if b = true then te σ3 H6 fun y H7 => ∃ acc, H7 D = some (.lst acc) ∧ acc.length < sizeLine ∧ Nx1 (upd H7 D (.lst (acc ++ [y]))) else Nx1 H6)
      else Pv (i + 1) H3) (hd : ∀ H, Pv n H → Qd H) :
    ∃ W : Nat → Nat → Hp → Prop, (∃ m, W 0 m (upd H1 D (.lst []))) ∧ ∀ i m H, W i m H →
      (J.stop i H ∧ Qd H) ∨ (J.go i H ∧ ∃ Nx : Hp → Prop, (∀ H', Nx H' → ∃ m', m' < m ∧ W (i + 1) m' H') ∧ ∀ x H', J.yld i H x H' → g x (wipe σ vs) H' fun σ2 H2 => wipe σ2 vs = wipe σ vs ∧ tt σ2 H2 fun b H3 =>
        if b = true then wi1 σ2 H3 fun J1 H4 => ∃ W1 : Nat → Nat → Hp → Prop, (∃ m, W1 0 m H4) ∧ ∀ j k H, W1 j k H →
          (J1.stop j H ∧ Nx H) ∨ (J1.go j H ∧ ∃ Nx1 : Hp → Prop, (∀ H', Nx1 H' → ∃ k', k' < k ∧ W1 (j + 1) k' H') ∧ ∀ x H', J1.yld j H x H' → g1 x (wipe σ2 vs1) H' fun σ3 H5 => wipe σ3 vs1 = wipe σ2 vs1 ∧ tt1 σ3 H5 fun b H6 =>
            if b = true then te σ3 H6 fun y H7 => ∃ acc, H7 D = some (.lst acc) ∧ acc.length < sizeLine ∧ Nx1 (upd H7 D (.lst (acc ++ [y]))) else Nx1 H6)
        else Nx H3) := by
  refine ⟨fun i m H => m = n - i ∧ i ≤ n ∧ Pv i H, ⟨n, by simp, Nat.zero_le _, h0⟩, ?_⟩
  rintro i m H ⟨rfl, hi, p⟩
  by_cases hlt : i < n
  · exact .inr ⟨hgo i H hlt p, Pv (i + 1), fun H' p' => ⟨n - (i + 1), by omega, rfl, hlt, p'⟩, fun x H' y => hs i x H H' hlt p y⟩
  · have e : i = n := by omega
    subst e
    exact .inl ⟨hst H p, hd H p⟩
end L2

namespace L2
open PySem PySem.Spec PyProof.Rows
section
variable {X : Cx}
/-- an expression's ways joined -/
def tJoinE (t : TE) : TE := fun σ H Q => ∃ R : VK, t σ H R ∧ ∀ v H', R v H' → Q v H'
theorem pe_joinE {e : Expr} {t : TE} (h : PE X e t) : PE X e (tJoinE t) := by
  intro pins s σ H Q I hq
  obtain ⟨R, hq, hR⟩ := hq
  exact thn (h pins s σ H _ I hq) fun u s1 ⟨v, H', I', r, q⟩ => ⟨v, H', I', r, hR v H' q⟩
end
/-- a block, by what it wants -/
def Blk (X : Cx) (sts : List Stmt) (W : Ends → St → Hp → Prop) : Prop := ∃ t, PSs X sts t ∧ ∀ D σ H, W D σ H → t D σ H
/-! ### parts of a text -/
def stB : Stmt → List Stmt
  | .For _ _ b _ _ => b
  | .While _ b _ _ => b
  | .If _ b _ _ => b
  | _ => []
abbrev stN (l : List Stmt) (i : Nat) : Stmt := l.getD i (.Pass ⟨0, 0, 0, 0⟩)
end L2
namespace Be
open PySem L2
mutual
theorem Tk.dp {K : PySem.W.Frag} {H : Hp} : ∀ {v : V} {d : PyData}, Tk H v d → Dp K H v d
  | _, _, .bl b => .bl b
  | _, _, .int i => .int i
  | _, _, .str x => .str x
  | _, _, .lst e h => .lst (SqL.of e) (TkAll.dp h)
  | _, _, .tup e h => .tup (SqT.of e) (TkAll.dp h)
theorem TkAll.dp {K : PySem.W.Frag} {H : Hp} : ∀ {vs : List V} {ds : List PyData}, TkAll H vs ds → DpAll K H vs ds
  | _, _, .nil => .nil
  | _, _, .cons h r => .cons (Tk.dp h) (TkAll.dp r)
end
/-- a comprehension's list so far -/
abbrev Tak (H : Hp) (D : Addr) (ys : List V) (i : Nat) (H' : Hp) : Prop := Same H H' ∧ H' D = some (.lst (ys.take i))
theorem Tak.start {H : Hp} {D : Addr} {ys : List V} (hD : H D = none) : Tak H D ys 0 (upd H D (.lst [])) := ⟨Same.upd hD, upd_same⟩
theorem Tak.next {H H1 H2 : Hp} {D : Addr} {ys : List V} {i : Nat} {w : V} (hD : H D = none) (h : Tak H D ys i H1) (s2 : Same H1 H2) (e : ys[i]? = some w) (hl : ys.length ≤ 10000000) :
    ∃ acc, H2 D = some (.lst acc) ∧ acc.length < sizeLine ∧ Tak H D ys (i + 1) (upd H2 D (.lst (acc ++ [w]))) := by
  have hi : i < ys.length := (List.getElem?_eq_some_iff.mp e).1
  refine ⟨ys.take i, s2 _ _ h.2, sz_lt (by rw [List.length_take]; omega), Same.put (h.1.trans s2) hD, ?_⟩
  rw [upd_same, List.take_succ_eq_append_getElem hi, (List.getElem?_eq_some_iff.mp e).2]
theorem Tak.all {H H' : Hp} {D : Addr} {ys : List V} {n : Nat} (h : Tak H D ys n H') (hn : ys.length ≤ n) : Same H H' ∧ H' D = some (.lst ys) := ⟨h.1, by rw [h.2, List.take_of_length_le hn]⟩
/-- new rows so far -/
abbrev Rak (H0 H : Hp) (D : Addr) (xss : List (List V)) (i : Nat) (H' : Hp) : Prop := Same H H' ∧ ∃ rs, H' D = some (.lst rs) ∧ Rows (msk H' [D]) rs (xss.take i) ∧ ∀ r ∈ rs, ∃ p, r = .ref p ∧ H0 p = none
theorem Rak.start {H0 H : Hp} {D : Addr} {xss : List (List V)} (hD : H D = none) : Rak H0 H D xss 0 (upd H D (.lst [])) := ⟨Same.upd hD, [], upd_same, .nil, fun _ h => by cases h⟩
theorem Rak.next {H0 H H1 H2 : Hp} {D : Addr} {xss : List (List V)} {i : Nat} {xs : List V} {l : Addr} (s0 : Same H0 H) (hD : H D = none) (h : Rak H0 H D xss i H1) (hx : xss[i]? = some xs) (s2 : Same H1 H2) (hl : H1 l = none) (hl2 : H2 l = some (.lst xs)) (hn : xss.length ≤ 10000000) :
    ∃ acc, H2 D = some (.lst acc) ∧ acc.length < sizeLine ∧ Rak H0 H D xss (i + 1) (upd H2 D (.lst (acc ++ [.ref l]))) := by
  obtain ⟨s, rs, h1, h2, h3⟩ := h
  have ne : D ≠ l := ne_of_none h1 hl
  have hlt : i < xss.length := (List.getElem?_eq_some_iff.mp hx).1
  have hrl : rs.length = i := by rw [h2.len, List.length_take]; omega
  refine ⟨rs, s2 _ _ h1, by rw [hrl]; exact sz_lt (by omega), Same.put (s.trans s2) hD, rs ++ [.ref l], upd_same, ?_, fun r hr => ?_⟩
  · rw [msk_upd (List.mem_singleton.mpr rfl), List.take_succ_eq_append_getElem hlt, (List.getElem?_eq_some_iff.mp hx).2]
    exact RowsM.snoc (h2.same (msk_same s2)) (fun q => ne (List.mem_singleton.mp q).symm) hl2
  · rcases List.mem_append.mp hr with z | z
    · exact h3 r z
    · exact ⟨l, List.mem_singleton.mp z, (s0.trans s).free hl⟩
theorem Rak.all {H0 H H' : Hp} {D : Addr} {xss : List (List V)} {n : Nat} (h : Rak H0 H D xss n H') (hn : xss.length ≤ n) : Same H H' ∧ ∃ rs, H' D = some (.lst rs) ∧ Rows H' rs xss ∧ ∀ r ∈ rs, ∃ p, r = .ref p ∧ H0 p = none := by
  obtain ⟨s, rs, h1, h2, h3⟩ := h
  rw [List.take_of_length_le hn] at h2
  exact ⟨s, rs, h1, h2.same msk_le, h3⟩
end Be

namespace L2
open PySem PySem.Spec PyProof.Rows
section
variable {X : Cx}
end
end L2

namespace Be
open PySem L2
section
variable {P : Program} {w : World} {K : PySem.W.Frag} {mg : Str → Option Value} {base : Heap}
/-! ### _law_met -/
end
end Be

namespace Be
open PySem L2
section
variable {P : Program} {w : World} {K : PySem.W.Frag} {mg : Str → Option Value} {base : Heap}
/-! ### _law_doubled -/
end
end Be

/-! zip of two lists whose pairs are kept by a name. -/
namespace PySem
open Sem (wp)
section
variable {prog : Program} {w : World} {A : Around} {E : Value → Shared → Prop} {s : Shared}
end
end PySem
namespace L2
open PySem PySem.Spec PyProof.Rows
end L2

namespace Be
open PySem L2
/-! ### tables of pairs -/
abbrev kk2 (n q : Nat) : List Key := [Sum.inl ((q / n : Nat) : Int), Sum.inl ((q % n : Nat) : Int)]
def tbl (n : Nat) (B : Nat → Bool) (m : Nat) : List (List Key × V) := (List.range m).map fun q => (kk2 n q, V.bl (B q))
/-- what is left when no more falls apart -/
structure Shut (M : Mach) (B : Nat → Bool) : Prop where
  obs : ∀ i j, i < M.n → j < M.n → B (i * M.n + j) = false → M.obs i = M.obs j
  go : ∀ i j, i < M.n → j < M.n → B (i * M.n + j) = false → ∀ k, k < M.k * M.k → B (M.go1 i k * M.n + M.go1 j k) = false
theorem Shut.eqs {M : Mach} {Bd : Nat} (ok : M.OkB Bd) {B : Nat → Bool} (h : Shut M B) : ∀ {is : List Nat} {i j : Nat}, i < M.n → j < M.n → B (i * M.n + j) = false → M.Stp is → M.obs (M.go i is) = M.obs (M.go j is)
  | [], i, j, hi, hj, hb, _ => h.obs i j hi hj hb
  | k :: is, i, j, hi, hj, hb, hs => by
    have hk : k < M.k * M.k := hs k List.mem_cons_self
    exact Shut.eqs (is := is) (i := M.go1 i k) (j := M.go1 j k) ok h (Mach.go1_lt ok hi hk) (Mach.go1_lt ok hj hk) (h.go i j hi hj hb k hk) fun x hx => hs x (List.mem_cons_of_mem _ hx)
end Be

namespace L2
open PySem PySem.Spec PyProof.Rows
end L2
namespace Be
open PySem L2
theorem ite2 {c : Bool} {A B : Prop} (h1 : c = true → A) (h2 : ¬ c = true → B) : if c = true then A else B := by
  by_cases h : c = true
  · rw [if_pos h]; exact h1 h
  · rw [if_neg h]; exact h2 h
section
variable {P : Program} {w : World} {K : PySem.W.Frag} {mg : Str → Option Value} {base : Heap}
/-! ### _law_parted -/
end
end Be

namespace Be
open PySem L2
section
variable {P : Program} {w : World} {K : PySem.W.Frag} {mg : Str → Option Value} {base : Heap}
/-! ### _law_is_machine -/
end
end Be

namespace L2
open PySem PySem.Spec PyProof.Rows
section
variable {X : Cx}
end
end L2
namespace Be
open PySem L2
section
variable {P : Program} {w : World} {K : PySem.W.Frag} {mg : Str → Option Value} {base : Heap}
/-! ### _law_is_least -/
end
end Be

namespace Be
open PySem L2
/-! ### words and moves -/
/-! ### each state twice -/
end Be

namespace Be
open PySem L2
/-! ### counting: mathematics -/
def Mach.cnt (M : Mach) : Nat → Nat → Nat
  | 0, q => if M.fin q = true then 1 else 0
  | 1, q => (M.mids.getD q []).count true
  | n + 2, q => ((M.row q).map (M.cnt n)).sum
def textsL (L : List Nat) : Nat → List (List Nat)
  | 0 => [[]]
  | t + 1 => (textsL L t).flatMap fun y => L.map fun c => y ++ [c]
theorem textsL_cons (L : List Nat) : ∀ t, textsL L (t + 1) = L.flatMap fun a => (textsL L t).map fun w => a :: w
  | 0 => by
    show [[]].flatMap (fun y => L.map fun c => y ++ [c]) = L.flatMap fun a => [[]].map fun w => a :: w
    simp [List.flatMap_singleton, List.flatMap_cons, List.map_eq_flatMap]
  | t + 1 => by
    show (textsL L (t + 1)).flatMap (fun y => L.map fun c => y ++ [c]) = L.flatMap fun a => (textsL L (t + 1)).map fun w => a :: w
    have ih := textsL_cons L t
    conv => lhs; rw [ih, List.flatMap_assoc]
    congr 1
    funext a
    rw [List.flatMap_map]
    show _ = ((textsL L t).flatMap fun y => L.map fun c => y ++ [c]).map fun w => a :: w
    rw [List.map_flatMap]
    congr 1
    funext w
    rw [List.map_map]
    rfl
theorem textsL_len (L : List Nat) : ∀ t, (textsL L t).length = L.length ^ t
  | 0 => rfl
  | t + 1 => by
    show ((textsL L t).flatMap fun y => L.map fun c => y ++ [c]).length = _
    rw [List.length_flatMap]
    have : (textsL L t).map (fun y => (L.map fun c => y ++ [c]).length) = (textsL L t).map fun _ => L.length := by
      congr 1; funext y; rw [List.length_map]
    rw [this, List.map_const', List.sum_replicate_nat, textsL_len L t, Nat.pow_succ]
theorem textsL_mem {L : List Nat} : ∀ {t : Nat} {w : List Nat}, w ∈ textsL L t → w.length = t ∧ ∀ c ∈ w, c ∈ L
  | 0, w, h => by
    rw [show textsL L 0 = [[]] from rfl, List.mem_singleton] at h
    subst h
    exact ⟨rfl, fun _ h => by cases h⟩
  | t + 1, w, h => by
    rw [show textsL L (t + 1) = (textsL L t).flatMap fun y => L.map fun c => y ++ [c] from rfl, List.mem_flatMap] at h
    obtain ⟨y, hy, h⟩ := h
    obtain ⟨c, hc, rfl⟩ := List.mem_map.mp h
    obtain ⟨h1, h2⟩ := textsL_mem hy
    refine ⟨by rw [List.length_append, h1]; rfl, fun d hd => ?_⟩
    rcases List.mem_append.mp hd with z | z
    · exact h2 d z
    · rw [List.mem_singleton.mp z]; exact hc
/-! ### sums -/
/-! ### letters -/
theorem LetOk.nodup {x : Str} (h : LetOk x) : x.cps.toList.Nodup := by
  have k1 := h.k1
  have k3 := h.k3
  have hl : x.cps.toList.length = x.cps.size := Array.length_toList
  have up : ∀ i c d, x.cps.toList[i]? = some c → x.cps.toList[i + 1]? = some d → c < d := fun i c d h1 h2 => by
    rw [Array.getElem?_toList] at h1 h2; exact h.up i c d h1 h2
  generalize x.cps.toList = l at hl up
  match l, hl with
  | [a], _ => simp
  | [a, b], _ =>
    have h1 := up 0 a b rfl rfl
    simp; omega
  | [a, b, c], _ =>
    have h1 := up 0 a b rfl rfl
    have h2 := up 1 b c rfl rfl
    simp; omega
  | [], e => simp at e; omega
  | _ :: _ :: _ :: _ :: _, e => simp at e; omega
theorem LetOk.ix {x : Str} (h : LetOk x) {i : Nat} (hi : i < x.cps.size) : x.cps.toList.idxOf (x.cps.toList.getD i 0) = i := by
  have hl : i < x.cps.toList.length := by rw [Array.length_toList]; exact hi
  rw [List.getD_eq_getElem?_getD, List.getElem?_eq_getElem hl, Option.getD_some]
  exact h.nodup.idxOf_getElem i hl
/-! ### reading from both ends -/
theorem hasAt_pair {M : Mach} {q a b : Nat} {w : List Nat} : M.hasAt q (a :: (w ++ [b])) = M.hasAt (M.stp q (a, b)) w := by
  unfold Mach.hasAt
  have hl : (a :: (w ++ [b])).length = w.length + 2 := by simp
  have hr : (a :: (w ++ [b])).reverse = b :: (w.reverse ++ [a]) := by simp
  rw [hl, hr]
  have h2 : (w.length + 2) / 2 = w.length / 2 + 1 := by omega
  have h3 : (w.length + 2) % 2 = w.length % 2 := by omega
  have hz : ((a :: (w ++ [b])).zip (b :: (w.reverse ++ [a]))).take (w.length / 2 + 1) = (a, b) :: (w.zip w.reverse).take (w.length / 2) := by
    rw [List.zip_cons_cons, List.take_succ_cons, List.zip_append (by simp), List.take_append_of_le_length (by simp; omega)]
  rw [h2, h3, hz]
  show (if w.length % 2 = 0 then M.fin (M.run (M.stp q (a, b)) ((w.zip w.reverse).take (w.length / 2))) else _) = _
  by_cases hp : w.length % 2 = 0
  · rw [if_pos hp, if_pos hp]
  · rw [if_neg hp, if_neg hp]
    congr 1
    rw [List.getD_cons_succ, List.getD_eq_getElem?_getD, List.getElem?_append_left (by omega), List.getD_eq_getElem?_getD]
/-! ### what counts -/
def Mach.neg (M : Mach) : Mach := ⟨M.letters, M.moves, M.ends.map not, M.mids.map fun r => r.map not⟩
end Be

namespace Be
open PySem L2
/-! ### two machines together: mathematics -/
def jobs (f : Bool → Bool → Bool) (a b : Bool × List Bool) : Bool × List Bool := (f a.1 b.1, List.zipWith f a.2 b.2)
section
variable {M N F : Mach} {f : Bool → Bool → Bool}
/-- F goes along with M and N -/
def Along (F M N : Mach) (f : Bool → Bool → Bool) (τ : Nat → Nat) (p i j : Nat) : Prop := ∀ is, F.Stp is → F.obs (F.go p is) = jobs f (M.obs (M.go i (is.map τ))) (N.obs (N.go j (is.map τ)))
theorem Along.step {τ : Nat → Nat} {p i j t : Nat} (h : Along F M N f τ p i j) (ht : t < F.k * F.k) : Along F M N f τ (F.go1 p t) (M.go1 i (τ t)) (N.go1 j (τ t)) := fun is hs => h (t :: is) fun t' ht' => by
  rcases List.mem_cons.mp ht' with e | e
  · rw [e]; exact ht
  · exact hs t' e
theorem Along.obs {τ : Nat → Nat} {p i j : Nat} (h : Along F M N f τ p i j) : F.obs p = jobs f (M.obs i) (N.obs j) := h [] fun _ z => by cases z
/-! ### turned about -/
/-! ### words -/
end
end Be

namespace Be
open PySem L2
/-! ### levels: mathematics -/
def wordy (M : Mach) (s : Nat) : Bool := M.fin s || (M.mids.getD s []).any id
def goalsOf (M : Mach) (l : List Nat) : List Nat := l.flatMap M.row
def lastL (ls : List (List Nat)) : List Nat := ls.getLastD []
def nxtL (M : Mach) (ls : List (List Nat)) : List Nat := (addN ls.flatten (goalsOf M (lastL ls))).drop ls.flatten.length
inductive Lev (M : Mach) : List (List Nat) → Prop
  | start : Lev M [[0]]
  | step {ls : List (List Nat)} : Lev M ls → lastL ls ≠ [] → (∀ s ∈ lastL ls, wordy M s = false) → Lev M (ls ++ [nxtL M ls])
theorem flat_snoc (M : Mach) (ls : List (List Nat)) : (ls ++ [nxtL M ls]).flatten = addN ls.flatten (goalsOf M (lastL ls)) := by
  obtain ⟨r, e⟩ := addN_pre (goalsOf M (lastL ls)) ls.flatten
  rw [List.flatten_append]
  unfold nxtL
  rw [e]
  simp
theorem Lev.ne {M : Mach} {ls : List (List Nat)} (h : Lev M ls) : ls ≠ [] := by cases h <;> simp
theorem lastL_mem {ls : List (List Nat)} (h : ls ≠ []) : lastL ls ∈ ls := by
  unfold lastL
  rw [List.getLastD_eq_getLast?, List.getLast?_eq_some_getLast h]
  exact List.getLast_mem h
theorem Lev.facts {M : Mach} {Bd : Nat} (ok : M.OkB Bd) {ls : List (List Nat)} (h : Lev M ls) : ls.flatten.Nodup ∧ ∀ s ∈ ls.flatten, s < M.moves.length := by
  induction h with
  | start => exact ⟨by simp, fun s hs => by have : s = 0 := by simpa using hs
                                            rw [this]; exact ok.n1⟩
  | @step ls h1 h2 h3 ih =>
    rw [flat_snoc]
    refine ⟨addN_nodup ih.1, fun s hs => ?_⟩
    rcases mem_addN.mp hs with z | z
    · exact ih.2 s z
    · obtain ⟨q, hq, hx⟩ := List.mem_flatMap.mp (show s ∈ (lastL ls).flatMap M.row from z)
      exact (Mach.row_len ok (ih.2 q (List.mem_flatten.mpr ⟨_, lastL_mem h1.ne, hq⟩))).2.1 s hx
section
variable {P : Program} {w : World} {K : PySem.W.Frag} {mg : Str → Option Value} {base : Heap}
end
end Be

namespace Be
open PySem L2
/-! ### the first word: mathematics -/
/-- w is the first of the words of n letters from q on -/
structure FirstAt (M : Mach) (n q : Nat) (w : List Nat) : Prop where
  len : w.length = n
  over : ∀ c ∈ w, c ∈ M.L
  has : M.hasAt q w = true
  le : ∀ u : List Nat, u.length = n → (∀ c ∈ u, c ∈ M.L) → M.hasAt q u = true → ¬ u < w
/-- no word of n letters from q on -/
def NoWord (M : Mach) (n q : Nat) : Prop := ∀ u : List Nat, u.length = n → (∀ c ∈ u, c ∈ M.L) → M.hasAt q u = false
/-- levels: what is known of them -/
structure Lvs (M : Mach) (ls : List (List Nat)) : Prop where
  zero : ls[0]? = some [0]
  close : ∀ i l s g, ls[i]? = some l → i + 1 < ls.length → s ∈ l → g ∈ M.row s → ∃ j l', j ≤ i + 1 ∧ ls[j]? = some l' ∧ g ∈ l'
  plain : ∀ i l s, ls[i]? = some l → i + 1 < ls.length → s ∈ l → wordy M s = false
  from_ : ∀ i l g, ls[i + 1]? = some l → g ∈ l → ∃ l' s, ls[i]? = some l' ∧ s ∈ l' ∧ g ∈ M.row s
theorem hasAt_nil (M : Mach) (q : Nat) : M.hasAt q [] = M.fin q := rfl
theorem hasAt_one (M : Mach) (q c : Nat) : M.hasAt q [c] = M.mid q c := by
  unfold Mach.hasAt
  simp [Mach.run]
/-- what is known of the words at a level: first ones of n letters, of all states that have one -/
structure Wds (M : Mach) (n : Nat) (l : List Nat) (ws : Nat → Option (List Nat)) : Prop where
  first : ∀ g w, ws g = some w → g ∈ l ∧ FirstAt M n g w
  all : ∀ g, g ∈ l → ws g = none → NoWord M n g
/-- the words that go around those of the next level -/
def around (M : Mach) (ws : Nat → Option (List Nat)) (s : Nat) : List (List Nat) := (M.L.flatMap fun a => M.L.map fun b => (a, b)).filterMap fun p => (ws (M.stp s p)).map fun w => p.1 :: (w ++ [p.2])
/-- the first word of all -/
structure FirstW (M : Mach) (w : List Nat) : Prop where
  at_ : FirstAt M w.length 0 w
  low : ∀ n, n < w.length → NoWord M n 0
end Be

/-! A written dict of one entry whose key is a tuple. -/
namespace L2
open PySem PySem.Spec PyProof.Rows
section
variable {X : Cx}
end
end L2

namespace Be
open PySem L2
/-! ### pairs that were met -/
theorem pairs_le {S : List (Nat × Nat)} {n m : Nat} (nd : S.Nodup) (h : ∀ x ∈ S, x.1 < n ∧ x.2 < m) : S.length ≤ n * m := by
  have h1 : (S.map fun x => x.1 * m + x.2).Nodup := by
    rw [List.Nodup, List.pairwise_map]
    refine List.Pairwise.imp_of_mem (fun {a b} ha hb hne => ?_) nd
    intro e
    have e' : a.1 * m + a.2 = b.1 * m + b.2 := e
    have ha2 := (h a ha).2
    have hb2 := (h b hb).2
    have hm : 0 < m := by omega
    have e1 : a.1 = b.1 := by
      have q1 : (a.1 * m + a.2) / m = a.1 := by rw [Nat.mul_comm, Nat.mul_add_div hm, Nat.div_eq_of_lt ha2, Nat.add_zero]
      have q2 : (b.1 * m + b.2) / m = b.1 := by rw [Nat.mul_comm, Nat.mul_add_div hm, Nat.div_eq_of_lt hb2, Nat.add_zero]
      rw [← q1, ← q2, e']
    have e2 : a.2 = b.2 := by rw [e1] at e'; omega
    exact hne (Prod.ext e1 e2)
  have h2 := nodup_le h1 (n := n * m) fun y hy => by
    obtain ⟨x, hx, rfl⟩ := List.mem_map.mp hy
    obtain ⟨q1, q2⟩ := h x hx
    calc x.1 * m + x.2 < x.1 * m + m := by omega
      _ = (x.1 + 1) * m := by rw [Nat.succ_mul]
      _ ≤ n * m := Nat.mul_le_mul_right _ q1
  rwa [List.length_map] at h2
/-- pairs as tuples in a list -/
def TpAt (H : Hp) (ts : List V) (L : List (Nat × Nat)) : Prop := Paired (fun r pq => ∃ a, r = V.ref a ∧ H a = some (.tup [.int ((pq.1 : Nat) : Int), .int ((pq.2 : Nat) : Int)])) ts L
theorem TpAt.keep {H H' : Hp} {ts : List V} {L : List (Nat × Nat)} (k : ∀ a xs, H a = some (.tup xs) → H' a = some (.tup xs)) (h : TpAt H ts L) : TpAt H' ts L := Paired.mapP h fun _ _ ⟨a, e, q⟩ => ⟨a, e, k _ _ q⟩
theorem TpAt.dp {K : PySem.W.Frag} {H : Hp} : ∀ {ts : List V} {L : List (Nat × Nat)}, TpAt H ts L → DpAll K H ts (L.map fun pq => .tuple [.int ((pq.1 : Nat) : Int), .int ((pq.2 : Nat) : Int)])
  | _, _, .nil => .nil
  | _, _, .cons ⟨a, e, q⟩ t => by subst e; exact .cons (.tup (SqT.of q) (.cons (.int _) (.cons (.int _) .nil))) (TpAt.dp t)
end Be

namespace Be
open PySem L2
/-! ### beginnings told apart: mathematics -/
/-- which letters two words can have at a place -/
def Chs (M : Mach) (o r : List Nat) (i : Nat) : List (Nat × Nat) := if i < o.length then [(o.getD i 0, r.getD i 0)] else M.L.map fun c => (c, c)
/-- from a pair of states, at a place, two words can still be gone on with so that just one is had -/
def Pts (M : Mach) (o r : List Nat) (n t p q : Nat) : Prop := ∃ u : List (Nat × Nat), u.length = n - 2 * t ∧ (∀ j x, u[j]? = some x → x ∈ Chs M o r (t + j)) ∧ M.hasAt p (u.map (·.1)) ≠ M.hasAt q (u.map (·.2))
theorem pts_step {M : Mach} {o r : List Nat} {n t p q : Nat} (h : 2 * (t + 1) ≤ n) :
    Pts M o r n t p q ↔ ∃ f ∈ Chs M o r t, ∃ l ∈ Chs M o r (n - 1 - t), Pts M o r n (t + 1) (M.stp p (f.1, l.1)) (M.stp q (f.2, l.2)) := by
  constructor
  · rintro ⟨u, hl, hc, hne⟩
    obtain ⟨f, u', rfl⟩ : ∃ f u', u = f :: u' := by
      cases u with
      | nil => rw [List.length_nil] at hl; omega
      | cons f u' => exact ⟨f, u', rfl⟩
    obtain ⟨v, l, rfl⟩ : ∃ v l, u' = v ++ [l] := by
      have hne' : u' ≠ [] := by
        rintro rfl
        rw [List.length_singleton] at hl; omega
      exact ⟨u'.dropLast, u'.getLast hne', (List.dropLast_concat_getLast hne').symm⟩
    rw [List.length_cons, List.length_append, List.length_singleton] at hl
    refine ⟨f, by have := hc 0 f rfl; rwa [Nat.add_zero] at this, l, ?_, v, by omega, fun j x hx => ?_, ?_⟩
    · have := hc (v.length + 1) l (by rw [List.getElem?_cons_succ, List.getElem?_append_right (Nat.le_refl _), Nat.sub_self]; rfl)
      rwa [show t + (v.length + 1) = n - 1 - t by omega] at this
    · have hj : j < v.length := (List.getElem?_eq_some_iff.mp hx).1
      have := hc (j + 1) x (by rw [List.getElem?_cons_succ, List.getElem?_append_left hj]; exact hx)
      rwa [show t + (j + 1) = t + 1 + j by omega] at this
    · rw [List.map_cons, List.map_cons, List.map_append, List.map_append] at hne
      show M.hasAt (M.stp p (f.1, l.1)) _ ≠ M.hasAt (M.stp q (f.2, l.2)) _
      rw [← hasAt_pair, ← hasAt_pair]
      exact hne
  · rintro ⟨f, hf, l, hl, v, hv, hc, hne⟩
    refine ⟨f :: (v ++ [l]), by rw [List.length_cons, List.length_append, List.length_singleton]; omega, fun j x hx => ?_, ?_⟩
    · cases j with
      | zero =>
        rw [List.getElem?_cons_zero] at hx
        rw [← Option.some.inj hx]; exact hf
      | succ j =>
        rw [List.getElem?_cons_succ] at hx
        by_cases hj : j < v.length
        · rw [List.getElem?_append_left hj] at hx
          have := hc j x hx
          rwa [show t + 1 + j = t + (j + 1) by omega] at this
        · have hjl := (List.getElem?_eq_some_iff.mp hx).1
          rw [List.length_append, List.length_singleton] at hjl
          obtain rfl : j = v.length := by omega
          rw [List.getElem?_append_right (Nat.le_refl _), Nat.sub_self] at hx
          rw [← Option.some.inj hx, show t + (v.length + 1) = n - 1 - t by omega]
          exact hl
    · rw [List.map_cons, List.map_cons, List.map_append, List.map_append]
      show M.hasAt p (f.1 :: (v.map (·.1) ++ [l.1])) ≠ M.hasAt q (f.2 :: (v.map (·.2) ++ [l.2]))
      rw [hasAt_pair, hasAt_pair]
      exact hne
theorem pts_even {M : Mach} {o r : List Nat} {n t p q : Nat} (h : n = 2 * t) : Pts M o r n t p q ↔ M.fin p ≠ M.fin q := by
  constructor
  · rintro ⟨u, hl, _, hne⟩
    obtain rfl : u = [] := List.length_eq_zero_iff.mp (by omega)
    rw [List.map_nil, List.map_nil, hasAt_nil, hasAt_nil] at hne
    exact hne
  · intro hne
    exact ⟨[], by rw [List.length_nil]; omega, fun j x hx => by simp at hx, hne⟩
theorem pts_odd {M : Mach} {o r : List Nat} {n t p q : Nat} (h : n = 2 * t + 1) : Pts M o r n t p q ↔ ∃ c ∈ Chs M o r t, M.mid p c.1 ≠ M.mid q c.2 := by
  constructor
  · rintro ⟨u, hl, hc, hne⟩
    obtain ⟨c, rfl⟩ : ∃ c, u = [c] := List.length_eq_one_iff.mp (by omega)
    have := hc 0 c rfl
    rw [Nat.add_zero] at this
    refine ⟨c, this, ?_⟩
    rw [List.map_singleton, List.map_singleton, hasAt_one, hasAt_one] at hne
    exact hne
  · rintro ⟨c, hc, hne⟩
    refine ⟨[c], by rw [List.length_singleton]; omega, fun j x hx => ?_, ?_⟩
    · cases j with
      | zero => rw [List.getElem?_cons_zero] at hx; rw [← Option.some.inj hx, Nat.add_zero]; exact hc
      | succ j => simp at hx
    · rw [List.map_singleton, List.map_singleton, hasAt_one, hasAt_one]; exact hne
/-- some ending parts two beginnings -/
def Prt (M : Mach) (o r : List Nat) (n : Nat) : Prop := ∃ e : List Nat, e.length = n - o.length ∧ (∀ c ∈ e, c ∈ M.L) ∧ M.hasAt 0 (o ++ e) ≠ M.hasAt 0 (r ++ e)
theorem zip_fst {α β : Type} : ∀ {l : List α} {m : List β}, l.length = m.length → (l.zip m).map (·.1) = l
  | [], [], _ => rfl
  | x :: l, y :: m, h => by rw [List.zip_cons_cons, List.map_cons, zip_fst (by simpa using h)]
theorem zip_snd {α β : Type} : ∀ {l : List α} {m : List β}, l.length = m.length → (l.zip m).map (·.2) = m
  | [], [], _ => rfl
  | x :: l, y :: m, h => by rw [List.zip_cons_cons, List.map_cons, zip_snd (by simpa using h)]
theorem getD_of {l : List Nat} {i x : Nat} (h : l[i]? = some x) : l.getD i 0 = x := by rw [List.getD_eq_getElem?_getD, h]; rfl
theorem prt_pts {M : Mach} {o r : List Nat} {n : Nat} (hr : r.length = o.length) (hn : o.length ≤ n) : Pts M o r n 0 0 0 ↔ Prt M o r n := by
  constructor
  · rintro ⟨u, hl, hc, hne⟩
    have hl' : u.length = n := by omega
    have e2 : ∀ (j : Nat) (x : Nat × Nat), (u.drop o.length)[j]? = some x → x.1 = x.2 ∧ x.1 ∈ M.L := fun j x hx => by
      rw [List.getElem?_drop] at hx
      have := hc _ x hx
      unfold Chs at this
      rw [if_neg (by omega)] at this
      obtain ⟨c, hc', rfl⟩ := List.mem_map.mp this
      exact ⟨rfl, hc'⟩
    have e1 : u.take o.length = o.zip r := by
      apply List.ext_getElem?
      intro j
      by_cases hj : j < o.length
      · have hju : j < u.length := by omega
        rw [List.getElem?_take_of_lt hj, List.getElem?_eq_getElem hju]
        have := hc j _ (List.getElem?_eq_getElem hju)
        unfold Chs at this
        rw [if_pos (by omega), List.mem_singleton, Nat.zero_add] at this
        rw [this, List.getD_eq_getElem?_getD, List.getD_eq_getElem?_getD, List.getElem?_eq_getElem hj, List.getElem?_eq_getElem (show j < r.length by omega)]
        symm
        rw [List.getElem?_zip_eq_some]
        exact ⟨List.getElem?_eq_getElem hj, List.getElem?_eq_getElem (by omega)⟩
      · rw [List.getElem?_eq_none (by rw [List.length_take]; omega), List.getElem?_eq_none (by rw [List.length_zip]; omega)]
    have e3 : (u.drop o.length).map (·.2) = (u.drop o.length).map (·.1) := List.map_congr_left fun x hx => by
      obtain ⟨j, hj⟩ := List.mem_iff_getElem?.mp hx
      exact (e2 j x hj).1.symm
    refine ⟨(u.drop o.length).map (·.1), by rw [List.length_map, List.length_drop, hl'], fun c hc' => ?_, ?_⟩
    · obtain ⟨x, hx, rfl⟩ := List.mem_map.mp hc'
      obtain ⟨j, hj⟩ := List.mem_iff_getElem?.mp hx
      exact (e2 j x hj).2
    · have f1 : u.map (·.1) = o ++ (u.drop o.length).map (·.1) := by
        conv => lhs; rw [← List.take_append_drop o.length u, List.map_append, e1, zip_fst hr.symm]
      have f2 : u.map (·.2) = r ++ (u.drop o.length).map (·.1) := by
        conv => lhs; rw [← List.take_append_drop o.length u, List.map_append, e1, zip_snd hr.symm, e3]
      rw [f1, f2] at hne
      exact hne
  · rintro ⟨e, he, hc, hne⟩
    refine ⟨(o ++ e).zip (r ++ e), ?_, fun j x hx => ?_, ?_⟩
    · rw [List.length_zip, List.length_append, List.length_append]; omega
    · rw [List.getElem?_zip_eq_some] at hx
      obtain ⟨h1, h2⟩ := hx
      rw [Nat.zero_add]
      unfold Chs
      by_cases hj : j < o.length
      · rw [if_pos hj, List.mem_singleton]
        rw [List.getElem?_append_left hj] at h1
        rw [List.getElem?_append_left (by omega)] at h2
        rw [getD_of h1, getD_of h2]
      · rw [if_neg hj]
        rw [List.getElem?_append_right (by omega)] at h1 h2
        rw [hr] at h2
        rw [h1] at h2
        have e12 := Option.some.inj h2
        exact List.mem_map.mpr ⟨x.1, hc _ (List.mem_of_getElem? h1), Prod.ext rfl e12⟩
    · rw [zip_fst (by rw [List.length_append, List.length_append, hr]), zip_snd (by rw [List.length_append, List.length_append, hr])]
      exact hne
/-- what moves two words can make together -/
def Stp (M : Mach) (o r : List Nat) (n t : Nat) : List ((Nat × Nat) × (Nat × Nat)) := (Chs M o r t).flatMap fun f => (Chs M o r (n - 1 - t)).map fun l => ((f.1, l.1), (f.2, l.2))
theorem chs_in {M : Mach} {o r : List Nat} (ho : ∀ c ∈ o, c ∈ M.L) (hr : ∀ c ∈ r, c ∈ M.L) (hl : r.length = o.length) {i : Nat} {x : Nat × Nat} (h : x ∈ Chs M o r i) : x.1 ∈ M.L ∧ x.2 ∈ M.L := by
  unfold Chs at h
  split at h
  · next hi =>
    rw [List.mem_singleton] at h
    subst h
    refine ⟨?_, ?_⟩
    · show o.getD i 0 ∈ M.L
      rw [List.getD_eq_getElem?_getD, List.getElem?_eq_getElem hi]
      exact ho _ (List.getElem_mem hi)
    · show r.getD i 0 ∈ M.L
      rw [List.getD_eq_getElem?_getD, List.getElem?_eq_getElem (show i < r.length by omega)]
      exact hr _ (List.getElem_mem _)
  · obtain ⟨c, hc, rfl⟩ := List.mem_map.mp h
    exact ⟨hc, hc⟩
theorem chs_len {M : Mach} (ok : LetOk M.letters) (o r : List Nat) (i : Nat) : 1 ≤ (Chs M o r i).length ∧ (Chs M o r i).length ≤ 3 := by
  have h1 := ok.k1
  have h3 := ok.k3
  unfold Chs
  split
  · exact ⟨Nat.le_refl _, by show 1 ≤ 3; decide⟩
  · rw [List.length_map, Array.length_toList]; exact ⟨h1, h3⟩
theorem flatMap_atG {α β : Type} {f : α → List β} {m : Nat} : ∀ {l : List α}, (∀ s ∈ l, (f s).length = m) → (l.flatMap f).length = l.length * m ∧ ∀ {i j : Nat} {s : α}, l[i]? = some s → j < m → (l.flatMap f)[i * m + j]? = (f s)[j]?
  | [], _ => ⟨by simp, fun h => by simp at h⟩
  | q :: l, h => by
    obtain ⟨h1, h2⟩ := flatMap_atG (l := l) fun s hs => h s (List.mem_cons_of_mem _ hs)
    have hq := h q List.mem_cons_self
    refine ⟨by rw [List.flatMap_cons, List.length_append, h1, hq, List.length_cons, Nat.succ_mul]; omega, fun {i j s} hi hj => ?_⟩
    rw [List.flatMap_cons]
    cases i with
    | zero =>
      rw [List.getElem?_cons_zero] at hi
      cases Option.some.inj hi
      rw [Nat.zero_mul, Nat.zero_add, List.getElem?_append_left (by omega)]
    | succ i =>
      rw [List.getElem?_cons_succ] at hi
      rw [List.getElem?_append_right (by rw [hq, Nat.succ_mul]; omega), hq, show (i + 1) * m + j - m = i * m + j by rw [Nat.succ_mul]; omega]
      exact h2 hi hj
theorem take_snoc {α : Type} {l : List α} {i : Nat} {x : α} (h : l[i]? = some x) : l.take (i + 1) = l.take i ++ [x] := by
  obtain ⟨hi, e⟩ := List.getElem?_eq_some_iff.mp h
  rw [List.take_succ_eq_append_getElem hi, e]
theorem wipe_at (σ : St) (i : Nat) : ∀ (vs : List Nat), (wipe σ vs)[i]? = if i ∈ vs then σ[i]?.map (fun _ => none) else σ[i]?
  | [] => rfl
  | v :: vs => by
    have ih := wipe_at σ i vs
    unfold wipe
    by_cases e : v = i
    · subst e
      rw [if_pos List.mem_cons_self]
      by_cases h : v < σ.length
      · rw [List.getElem?_set_self (by rw [wipe_length]; exact h), List.getElem?_eq_getElem h]; rfl
      · rw [List.getElem?_eq_none (by rw [List.length_set, wipe_length]; omega), List.getElem?_eq_none (by omega)]; rfl
    · rw [List.getElem?_set_ne e, ih]
      by_cases h : i ∈ vs
      · rw [if_pos h, if_pos (List.mem_cons_of_mem _ h)]
      · rw [if_neg h, if_neg (fun z => by rcases List.mem_cons.mp z with z | z; exact e z.symm; exact h z)]
theorem wipe_sets {σ : St} {vs : List Nat} {i j : Nat} {a b : Option V} (hi : i ∈ vs) (hj : j ∈ vs) : wipe (((wipe σ vs).set i a).set j b) vs = wipe σ vs := by
  apply List.ext_getElem?
  intro x
  rw [wipe_at, wipe_at]
  by_cases h : x ∈ vs
  · rw [if_pos h, if_pos h]
    by_cases hx : x < σ.length
    · rw [List.getElem?_eq_getElem (by rw [List.length_set, List.length_set, wipe_length]; exact hx), List.getElem?_eq_getElem hx]; rfl
    · rw [List.getElem?_eq_none (by rw [List.length_set, List.length_set, wipe_length]; omega), List.getElem?_eq_none (by omega)]
  · rw [if_neg h, if_neg h, List.getElem?_set_ne (show j ≠ x from fun z => h (by rw [← z]; exact hj)), List.getElem?_set_ne (show i ≠ x from fun z => h (by rw [← z]; exact hi)), wipe_at, if_neg h]
/-- one step with all pairs -/
def Nxt (M : Mach) (S : List (Nat × Nat)) (T : List ((Nat × Nat) × (Nat × Nat))) : List (Nat × Nat) := S.flatMap fun pq => T.map fun s => (M.stp pq.1 s.1, M.stp pq.2 s.2)
/-- pairs that stand for the whole question -/
def Rep (M : Mach) (o r : List Nat) (n t : Nat) (S : List (Nat × Nat)) : Prop := S.Nodup ∧ (∀ x ∈ S, x.1 < M.moves.length ∧ x.2 < M.moves.length) ∧ ((∃ x ∈ S, Pts M o r n t x.1 x.2) ↔ Pts M o r n 0 0 0)
theorem rep_start {M : Mach} {Bd : Nat} (ok : M.OkB Bd) (o r : List Nat) (n : Nat) : Rep M o r n 0 [(0, 0)] := by
  refine ⟨by simp, fun x hx => ?_, ?_⟩
  · rw [List.mem_singleton] at hx; rw [hx]; exact ⟨ok.n1, ok.n1⟩
  · constructor
    · rintro ⟨x, hx, h⟩
      rw [List.mem_singleton] at hx; rw [hx] at h; exact h
    · exact fun h => ⟨(0, 0), List.mem_singleton.mpr rfl, h⟩
theorem rep_next {M : Mach} {Bd : Nat} (ok : M.OkB Bd) {o r : List Nat} {n t : Nat} {S S' : List (Nat × Nat)} (ho : ∀ c ∈ o, c ∈ M.L) (hr : ∀ c ∈ r, c ∈ M.L) (hl : r.length = o.length) (h : 2 * (t + 1) ≤ n) (R : Rep M o r n t S) (nd : S'.Nodup) (hm : ∀ x, x ∈ S' ↔ x ∈ Nxt M S (Stp M o r n t)) : Rep M o r n (t + 1) S' := by
  obtain ⟨_, hlt, hiff⟩ := R
  have hmem : ∀ x, x ∈ S' ↔ ∃ y ∈ S, ∃ f ∈ Chs M o r t, ∃ l ∈ Chs M o r (n - 1 - t), x = (M.stp y.1 (f.1, l.1), M.stp y.2 (f.2, l.2)) := fun x => by
    rw [hm x]
    unfold Nxt Stp
    constructor
    · intro hx
      obtain ⟨y, hy, hx⟩ := List.mem_flatMap.mp hx
      obtain ⟨s, hs, rfl⟩ := List.mem_map.mp hx
      obtain ⟨f, hf, hs⟩ := List.mem_flatMap.mp hs
      obtain ⟨l, hl', rfl⟩ := List.mem_map.mp hs
      exact ⟨y, hy, f, hf, l, hl', rfl⟩
    · rintro ⟨y, hy, f, hf, l, hl', rfl⟩
      exact List.mem_flatMap.mpr ⟨y, hy, List.mem_map.mpr ⟨((f.1, l.1), (f.2, l.2)), List.mem_flatMap.mpr ⟨f, hf, List.mem_map.mpr ⟨l, hl', rfl⟩⟩, rfl⟩⟩
  refine ⟨nd, fun x hx => ?_, ?_⟩
  · obtain ⟨y, hy, f, hf, l, hl', rfl⟩ := (hmem x).mp hx
    obtain ⟨f1, f2⟩ := chs_in ho hr hl hf
    obtain ⟨l1, l2⟩ := chs_in ho hr hl hl'
    obtain ⟨_, _, _, a⟩ := Mach.cell ok (hlt y hy).1 f1 l1
    obtain ⟨_, _, _, b⟩ := Mach.cell ok (hlt y hy).2 f2 l2
    exact ⟨a, b⟩
  · rw [← hiff]
    constructor
    · rintro ⟨x, hx, hp⟩
      obtain ⟨y, hy, f, hf, l, hl', rfl⟩ := (hmem x).mp hx
      exact ⟨y, hy, (pts_step h).mpr ⟨f, hf, l, hl', hp⟩⟩
    · rintro ⟨y, hy, hp⟩
      obtain ⟨f, hf, l, hl', hp'⟩ := (pts_step h).mp hp
      exact ⟨_, (hmem _).mpr ⟨y, hy, f, hf, l, hl', rfl⟩, hp'⟩
end Be

namespace Be
open PySem L2
/-! ### a set's table: places rise -/
abbrev Rise (xs : Array Nat) : Prop := ∀ a b, a < b → b < xs.size → xs.getD a 0 < xs.getD b 0
/-- k is where j belongs -/
structure At (xs : Array Nat) (j k : Nat) : Prop where
  le : k ≤ xs.size
  lo : ∀ i, i < k → xs.getD i 0 < j
  hi : ∀ i, k ≤ i → i < xs.size → j ≤ xs.getD i 0
theorem below_go {xs : Array Nat} {j : Nat} (R : Rise xs) : ∀ f lo hi, hi - lo ≤ f → lo ≤ hi → hi ≤ xs.size → (∀ i, i < lo → xs.getD i 0 < j) → (∀ i, hi ≤ i → i < xs.size → j ≤ xs.getD i 0) → At xs j (SetTable.below.go xs j f lo hi)
  | 0, lo, hi, h1, h2, h3, h4, h5 => by
    have e : lo = hi := by omega
    subst e
    exact ⟨h3, h4, h5⟩
  | f + 1, lo, hi, h1, h2, h3, h4, h5 => by
    unfold SetTable.below.go
    by_cases h : lo < hi
    · rw [if_pos h]
      dsimp only
      have hm1 : lo ≤ (lo + hi) / 2 := by omega
      have hm2 : (lo + hi) / 2 < hi := by omega
      generalize (lo + hi) / 2 = m at hm1 hm2
      have hgm : xs.getD m j = xs.getD m 0 := by
        rw [Array.getD_eq_getD_getElem?, Array.getD_eq_getD_getElem?, Array.getElem?_eq_getElem (show m < xs.size by omega)]; rfl
      rw [hgm]
      by_cases hx : xs.getD m 0 < j
      · rw [if_pos hx]
        refine below_go R f (m + 1) hi (by omega) (by omega) h3 (fun i hi' => ?_) h5
        by_cases e : i = m
        · rw [e]; exact hx
        · exact Nat.lt_trans (R i m (by omega) (by omega)) hx
      · rw [if_neg hx]
        refine below_go R f lo m (by omega) hm1 (by omega) h4 fun i hi' hs => ?_
        by_cases e : i = m
        · rw [e]; omega
        · have := R m i (by omega) hs
          omega
    · rw [if_neg h]
      have e : lo = hi := by omega
      subst e
      exact ⟨h3, h4, h5⟩
theorem below_at {xs : Array Nat} {j : Nat} (R : Rise xs) : At xs j (SetTable.below xs j) :=
  below_go R _ 0 xs.size (by omega) (Nat.zero_le _) (Nat.le_refl _) (fun i h => by omega) (fun i h1 h2 => by omega)
theorem At.uniq {xs : Array Nat} {j k k' : Nat} (h : At xs j k) (h' : At xs j k') : k = k' := by
  rcases Nat.lt_trichotomy k k' with e | e | e
  · have h1 := h'.lo k e
    have h2 := h.hi k (Nat.le_refl _) (by have := h'.le; omega)
    omega
  · exact e
  · have h1 := h.lo k' e
    have h2 := h'.hi k' (Nat.le_refl _) (by have := h.le; omega)
    omega
theorem below_zero {xs : Array Nat} (R : Rise xs) : SetTable.below xs 0 = 0 :=
  (below_at R).uniq ⟨Nat.zero_le _, fun i h => by omega, fun i _ _ => Nat.zero_le _⟩
theorem below_next {xs : Array Nat} (R : Rise xs) {i : Nat} (hi : i < xs.size) : SetTable.below xs (xs.getD i 0 + 1) = i + 1 :=
  (below_at R).uniq ⟨hi, fun a h => by
    by_cases e : a = i
    · rw [e]; omega
    · have := R a i (by omega) hi
      omega, fun a h1 h2 => by
    have := R i a (by omega) h2
    omega⟩
theorem ins_size {α : Type} (xs : Array α) {p : Nat} (x : α) (hp : p ≤ xs.size) : (SetTable.insertAt xs p x).size = xs.size + 1 := by
  unfold SetTable.insertAt
  simp
  omega
theorem ins_getD {xs : Array Nat} {p x : Nat} (hp : p ≤ xs.size) (i : Nat) : (SetTable.insertAt xs p x).getD i 0 = if i < p then xs.getD i 0 else if i = p then x else xs.getD (i - 1) 0 := by
  have hl : (SetTable.insertAt xs p x).toList = xs.toList.take p ++ x :: xs.toList.drop p := by
    unfold SetTable.insertAt
    simp [Array.toList_extract]
    rw [List.take_of_length_le (by simp)]
  have g : ∀ (ys : Array Nat) (k : Nat), ys.getD k 0 = ys.toList.getD k 0 := fun ys k => by
    rw [List.getD_eq_getElem?_getD, Array.getElem?_toList, Array.getD_eq_getD_getElem?]
  rw [g, hl, g, g, List.getD_eq_getElem?_getD, List.getD_eq_getElem?_getD, List.getD_eq_getElem?_getD]
  have htl : (xs.toList.take p).length = p := by rw [List.length_take, Array.length_toList]; omega
  by_cases h1 : i < p
  · rw [if_pos h1, List.getElem?_append_left (by omega), List.getElem?_take_of_lt h1]
  · rw [if_neg h1, List.getElem?_append_right (by omega), htl]
    by_cases h2 : i = p
    · rw [if_pos h2, h2, Nat.sub_self]; rfl
    · rw [if_neg h2]
      obtain ⟨m, hm⟩ : ∃ m, i - p = m + 1 := ⟨i - p - 1, by omega⟩
      rw [hm, List.getElem?_cons_succ, List.getElem?_drop]
      congr 2
      omega
theorem ins_rise {xs : Array Nat} {j : Nat} (R : Rise xs) (hj : ∀ i, i < xs.size → xs.getD i 0 ≠ j) : Rise (SetTable.insertAt xs (SetTable.below xs j) j) := by
  obtain ⟨h1, h2, h3⟩ := below_at (j := j) R
  generalize SetTable.below xs j = p at h1 h2 h3 ⊢
  intro a b hab hb
  rw [ins_size xs j h1] at hb
  rw [ins_getD h1, ins_getD h1]
  by_cases a1 : a < p
  · rw [if_pos a1]
    by_cases b1 : b < p
    · rw [if_pos b1]; exact R a b hab (by omega)
    · rw [if_neg b1]
      by_cases b2 : b = p
      · rw [if_pos b2]; exact h2 a a1
      · rw [if_neg b2]; exact R a (b - 1) (by omega) (by omega)
  · rw [if_neg a1, if_neg (by omega : ¬ b < p)]
    by_cases a2 : a = p
    · rw [if_pos a2, if_neg (by omega)]
      have h4 := h3 (b - 1) (by omega) (by omega)
      have h5 := hj (b - 1) (by omega)
      omega
    · rw [if_neg a2, if_neg (by omega)]
      exact R (a - 1) (b - 1) (by omega) (by omega)
/-- the table of a set to which things were only added, and few -/
structure TOk (t : SetTable) (n : Nat) (led : Bool) : Prop where
  size : t.place.size = n
  dum : t.dummies = #[]
  rise : Rise t.place
  led : t.led = led
  mask : t.mask = 7
  plain : t.plain = true
theorem TOk.fresh (led : Bool) : TOk (.fresh 0 0 led) 0 led := ⟨rfl, rfl, fun a b _ h => absurd h (Nat.not_lt_zero _), rfl, rfl, rfl⟩
theorem slot_at {t : SetTable} (hd : t.dummies = #[]) (j : Nat) : t.slot j = if t.place[SetTable.below t.place j]? == some j then .live (SetTable.below t.place j) else .empty := by
  unfold SetTable.slot
  dsimp only
  rw [hd]
  split
  · rfl
  · rfl
theorem slot_free {t : SetTable} (hd : t.dummies = #[]) (R : Rise t.place) {j : Nat} (h : t.slot j = .empty) : ∀ i, i < t.place.size → t.place.getD i 0 ≠ j := fun i hi e => by
  rw [slot_at hd] at h
  have hb : SetTable.below t.place j = i := (below_at R).uniq ⟨by omega, fun a ha => by rw [← e]; exact R a i ha hi, fun a h1 h2 => by
    by_cases z : a = i
    · rw [z, e]; exact Nat.le_refl _
    · have := R i a (by omega) h2
      omega⟩
  have hg : t.place[i]? = some j := by
    rw [← e, Array.getD_eq_getD_getElem?, Array.getElem?_eq_getElem hi]; rfl
  rw [hb, hg, if_pos (by simp)] at h
  cases h
/-! a small table always has a free slot that is met -/
theorem slot_live {t : SetTable} (hd : t.dummies = #[]) {j i : Nat} (h : t.slot j = .live i) : t.place[i]? = some j := by
  rw [slot_at hd] at h
  split at h
  · next e =>
    injection h with h
    rw [← h]
    simpa using e
  · cases h
def pr (j pert : Nat) : SetTable.Probe := ⟨j, 0, j, pert, none⟩
end Be

namespace Be
open PySem
/-! ### a set's table of any size: mathematics -/
abbrev Pb := SetTable.Probe
def adv (m : Nat) (p : Pb) : Pb :=
  if p.more > 0 then { p with j := p.j + 1, more := p.more - 1 } else
  { p with j := (SetTable.leap m p.i p.perturb).1, more := SetTable.runEnd m (SetTable.leap m p.i p.perturb).1 - (SetTable.leap m p.i p.perturb).1, i := (SetTable.leap m p.i p.perturb).1, perturb := (SetTable.leap m p.i p.perturb).2 }
theorem adv_eq (t : SetTable) (p : Pb) : t.advance p = adv t.mask p := by
  unfold SetTable.advance adv
  split
  · rfl
  · rfl
theorem adv_dummy (m : Nat) (p : Pb) : (adv m p).dummy = p.dummy := by
  unfold adv
  split <;> rfl
/-- where a leap lands -/
def lst (m i pert : Nat) : Pb := ⟨i, SetTable.runEnd m i - i, i, pert, none⟩
abbrev st0 (m : Nat) (h : Int) : Pb := lst m (SetTable.bits h % (m + 1)) (SetTable.bits h)
/-- from p one comes to slot j by slots of C -/
inductive Path (C : Nat → Prop) (m : Nat) : Pb → Nat → Prop
  | here (p : Pb) : Path C m p p.j
  | step (p : Pb) (j : Nat) : C p.j → Path C m (adv m p) j → Path C m p j
theorem Path.mono {C D : Nat → Prop} {m : Nat} {p : Pb} {j : Nat} (h : Path C m p j) (i : ∀ x, C x → D x) : Path D m p j := by
  induction h with
  | here p => exact .here p
  | step p j c _ ih => exact .step p j (i _ c) ih
/-- of two ways from p none goes past where the other one ends -/
theorem Path.meet {C D : Nat → Prop} {m : Nat} {p : Pb} {j k : Nat} (h : Path C m p j) (h' : Path D m p k) (hj : ¬ D j) (hk : ¬ C k) : j = k := by
  induction h with
  | here p =>
    cases h' with
    | here => rfl
    | step _ _ d _ => exact absurd d hj
  | step p j c _ ih =>
    cases h' with
    | here => exact absurd c hk
    | step _ _ d q => exact ih q hj
/-- a slot that is not of C is met -/
def Meets (C : Nat → Prop) (m : Nat) : Nat → Pb → Prop
  | 0, _ => False
  | n + 1, p => ¬ C p.j ∨ Meets C m n (adv m p)
theorem Meets.le {C : Nat → Prop} {m : Nat} : ∀ {n n' : Nat} {p : Pb}, n ≤ n' → Meets C m n p → Meets C m n' p
  | 0, _, _, _, h => h.elim
  | n + 1, 0, _, e, _ => by omega
  | n + 1, n' + 1, _, e, h => h.elim .inl fun q => .inr (Meets.le (by omega) q)
theorem Meets.run {C : Nat → Prop} {m n : Nat} : ∀ (k : Nat) (p : Pb), p.more = k → p.dummy = none → Meets C m n (lst m (SetTable.leap m p.i p.perturb).1 (SetTable.leap m p.i p.perturb).2) → Meets C m (n + k + 1) p
  | 0, p, hk, hd, h => by
    refine .inr ?_
    have e : adv m p = lst m (SetTable.leap m p.i p.perturb).1 (SetTable.leap m p.i p.perturb).2 := by
      unfold adv
      rw [if_neg (by omega)]
      unfold lst
      rw [← hd]
    rw [e]
    exact h
  | k + 1, p, hk, hd, h => by
    have e : adv m p = { p with j := p.j + 1, more := p.more - 1 } := by
      unfold adv
      rw [if_pos (by omega)]
    refine .inr ?_
    rw [e]
    exact Meets.run k _ (by show p.more - 1 = k; omega) hd h
theorem run_le (m i : Nat) : SetTable.runEnd m i - i ≤ 9 := by
  unfold SetTable.runEnd
  split <;> omega
/-- leaps -/
def lit (m : Nat) : Nat → Nat × Nat → Nat × Nat
  | 0, x => x
  | n + 1, x => lit m n (SetTable.leap m x.1 x.2)
theorem lit_add (m a b : Nat) (x : Nat × Nat) : lit m (a + b) x = lit m b (lit m a x) := by
  induction a generalizing x with
  | zero => rw [Nat.zero_add]; rfl
  | succ a ih => rw [show a + 1 + b = (a + b) + 1 by omega]; exact ih _
theorem meets_leaps {C : Nat → Prop} {m : Nat} : ∀ (F : Nat) (i pert : Nat), (∃ n, n < F ∧ ¬ C (lit m n (i, pert)).1) → Meets C m (10 * F) (lst m i pert)
  | 0, i, pert, ⟨n, h, _⟩ => by omega
  | F + 1, i, pert, ⟨n, h, hc⟩ => by
    cases n with
    | zero => exact Meets.le (n := 1) (by omega) (.inl hc)
    | succ n =>
      have ih := meets_leaps F (SetTable.leap m i pert).1 (SetTable.leap m i pert).2 ⟨n, by omega, hc⟩
      refine Meets.le ?_ (Meets.run (n := 10 * F) _ (lst m i pert) rfl rfl ih)
      have := run_le m i
      show 10 * F + (SetTable.runEnd m i - i) + 1 ≤ _
      omega
/-! the leaps go round all -/
def gg : Nat → Nat → Nat
  | 0, x => x
  | n + 1, x => gg n (5 * x + 1)
theorem gg_add (a b x : Nat) : gg (a + b) x = gg b (gg a x) := by
  induction a generalizing x with
  | zero => rw [Nat.zero_add]; rfl
  | succ a ih => rw [show a + 1 + b = (a + b) + 1 by omega]; exact ih _
theorem gg_pow : ∀ k : Nat, ∃ o : Nat, o % 2 = 1 ∧ ∀ x, gg (2 ^ k) x = x + 2 ^ k * (o * (4 * x + 1))
  | 0 => ⟨1, rfl, fun x => by show 5 * x + 1 = _; omega⟩
  | k + 1 => by
    obtain ⟨o, ho, h⟩ := gg_pow k
    refine ⟨o * (2 * (2 ^ k * o) + 1), ?_, fun x => ?_⟩
    · rw [Nat.mul_mod, ho]; omega
    · rw [Nat.pow_succ, Nat.mul_two, gg_add, h, h]
      generalize 2 ^ k = z
      have e1 : ∀ y : Nat, z * (o * (4 * (x + y) + 1)) = z * (o * (4 * x + 1)) + 4 * (z * o * y) := fun y => by
        rw [show 4 * (x + y) + 1 = (4 * x + 1) + y * 4 by omega, Nat.mul_add, Nat.mul_add, Nat.mul_comm 4 (z * o * y)]
        simp only [Nat.mul_assoc]
      rw [e1]
      have e2 : (z + z) * (o * (2 * (z * o) + 1) * (4 * x + 1)) = 2 * (z * (o * (4 * x + 1))) + 4 * (z * o * (z * (o * (4 * x + 1)))) := by
        have : (z + z) * (o * (2 * (z * o) + 1) * (4 * x + 1)) = 2 * (z * o * (2 * (z * o) + 1) * (4 * x + 1)) := by
          rw [← Nat.two_mul]; simp only [Nat.mul_assoc]
        rw [this]
        generalize hq : 4 * x + 1 = q
        have e3 : z * o * (2 * (z * o) + 1) * q = 2 * (z * o * (z * (o * q))) + z * (o * q) := by
          rw [Nat.mul_add, Nat.add_mul, Nat.mul_one, Nat.mul_assoc z o q]
          congr 1
          simp only [Nat.mul_assoc, Nat.mul_left_comm]
        rw [e3]; omega
      rw [e2]; omega
theorem gg_all : ∀ (k x y : Nat), ∃ n, n < 2 ^ k ∧ gg n x % 2 ^ k = y % 2 ^ k
  | 0, x, y => ⟨0, by decide, by rw [Nat.pow_zero, Nat.mod_one, Nat.mod_one]⟩
  | k + 1, x, y => by
    obtain ⟨n, hn, e⟩ := gg_all k x y
    obtain ⟨o, ho, hp⟩ := gg_pow k
    have hz : 0 < 2 ^ k := Nat.pow_pos (by decide)
    have key : gg (n + 2 ^ k) x = gg n x + 2 ^ k * (o * (4 * gg n x + 1)) := by rw [gg_add, hp]
    have hodd : (o * (4 * gg n x + 1)) % 2 = 1 := by rw [Nat.mul_mod, ho]; omega
    generalize o * (4 * gg n x + 1) = c at key hodd
    rw [Nat.pow_succ]
    generalize hzz : 2 ^ k = z at *
    have m1 : ∀ a : Nat, a % (z * 2) = a % z + z * (a / z % 2) := fun a => Nat.mod_mul
    by_cases h : gg n x % (z * 2) = y % (z * 2)
    · exact ⟨n, by omega, h⟩
    · refine ⟨n + z, by omega, ?_⟩
      rw [m1, m1, e] at h
      rw [key, m1, m1, Nat.add_mul_mod_self_left, e, Nat.add_mul_div_left _ _ hz]
      congr 2
      have h2 : gg n x / z % 2 ≠ y / z % 2 := fun q => h (by rw [q])
      omega
theorem lit_zero {m k : Nat} (hm : m + 1 = 2 ^ k) : ∀ (n i : Nat), (lit m n (i, 0)).1 % 2 ^ k = gg n i % 2 ^ k ∧ (n = 0 ∨ (lit m n (i, 0)).1 < 2 ^ k)
  | 0, i => ⟨rfl, .inl rfl⟩
  | n + 1, i => by
    obtain ⟨h1, h2⟩ := lit_zero hm n ((i * 5 + 1 + 0 / 32) % (m + 1))
    have hlt : (i * 5 + 1 + 0 / 32) % (m + 1) < 2 ^ k := by rw [hm]; exact Nat.mod_lt _ (Nat.pow_pos (by decide))
    have e : lit m (n + 1) (i, 0) = lit m n ((i * 5 + 1 + 0 / 32) % (m + 1), 0) := by
      show lit m n ((i * 5 + 1 + 0 / 32) % (m + 1), 0 / 32) = _
      rw [Nat.zero_div]
    have step : ∀ (n a b : Nat), a % 2 ^ k = b % 2 ^ k → gg n a % 2 ^ k = gg n b % 2 ^ k := by
      intro n
      induction n with
      | zero => exact fun a b h => h
      | succ n ih => exact fun a b h => ih _ _ (by rw [Nat.add_mod, Nat.mul_mod, h, ← Nat.mul_mod, ← Nat.add_mod])
    refine ⟨?_, .inr ?_⟩
    · rw [e, h1]
      refine step n _ _ ?_
      rw [hm, Nat.mod_mod]
      congr 1
      omega
    · rw [e]
      rcases h2 with z | z
      · rw [z]; exact hlt
      · exact z
theorem lit_pert {m : Nat} : ∀ (n i pert : Nat), (lit m n (i, pert)).2 = pert / 32 ^ n
  | 0, i, pert => by show pert = pert / 1; rw [Nat.div_one]
  | n + 1, i, pert => by
    have := lit_pert (m := m) n ((i * 5 + 1 + pert / 32) % (m + 1)) (pert / 32)
    rw [Nat.pow_succ, Nat.mul_comm, ← Nat.div_div_eq_div_mul]
    exact this
theorem lit_lt {m : Nat} (n i pert : Nat) (h : i < m + 1) : (lit m n (i, pert)).1 < m + 1 := by
  induction n generalizing i pert with
  | zero => exact h
  | succ n ih => exact ih _ _ (Nat.mod_lt _ (Nat.succ_pos m))
theorem bits_lt (h : Int) : SetTable.bits h < 32 ^ 13 := by
  unfold SetTable.bits
  have h1 : h % (2 ^ 64 : Int) < 2 ^ 64 := Int.emod_lt_of_pos _ (by decide)
  have h2 : 0 ≤ h % (2 ^ 64 : Int) := Int.emod_nonneg _ (by decide)
  have h3 : (32 : Nat) ^ 13 = 36893488147419103232 := by decide
  rw [h3]
  omega
/-- any slot is met within the turns -/
theorem leaps_all {m k : Nat} (hm : m + 1 = 2 ^ k) (h : Int) (e : Nat) (he : e ≤ m) : ∃ n, n < SetTable.turns m ∧ (lit m n (SetTable.bits h % (m + 1), SetTable.bits h)).1 = e := by
  have hi := lit_lt (m := m) 13 (SetTable.bits h % (m + 1)) (SetTable.bits h) (Nat.mod_lt _ (Nat.succ_pos m))
  have hp := lit_pert (m := m) 13 (SetTable.bits h % (m + 1)) (SetTable.bits h)
  rw [Nat.div_eq_of_lt (bits_lt h)] at hp
  have e13 : lit m 13 (SetTable.bits h % (m + 1), SetTable.bits h) = ((lit m 13 (SetTable.bits h % (m + 1), SetTable.bits h)).1, 0) := Prod.ext rfl hp
  generalize hx : (SetTable.bits h % (m + 1), SetTable.bits h) = x at hi hp e13 ⊢
  obtain ⟨n, hn, q⟩ := gg_all k (lit m 13 x).1 e
  refine ⟨13 + n, by unfold SetTable.turns; omega, ?_⟩
  rw [lit_add, e13]
  obtain ⟨a, b⟩ := lit_zero hm n (lit m 13 x).1
  have he' : e < 2 ^ k := by omega
  rw [q, Nat.mod_eq_of_lt he'] at a
  rcases b with b | b
  · subst b
    show (lit m 13 x).1 = e
    have : (lit m 13 x).1 % 2 ^ k = e := a
    rwa [Nat.mod_eq_of_lt (by omega)] at this
  · rwa [Nat.mod_eq_of_lt b] at a
theorem start_meets {C : Nat → Prop} {m k : Nat} (hm : m + 1 = 2 ^ k) (h : Int) {e : Nat} (he : e ≤ m) (hc : ¬ C e) : Meets C m (10 * SetTable.turns m) (st0 m h) := by
  obtain ⟨n, hn, q⟩ := leaps_all hm h e he
  exact meets_leaps _ _ _ ⟨n, hn, by rw [q]; exact hc⟩
end Be

namespace Be
open PySem
/-! ### a set's table of any size: what holds of it -/
abbrev Ent := Int × Value
abbrev dE : Ent := (0, .none)
def Occ (t : SetTable) (j : Nat) : Prop := ∃ i : Nat, t.place[i]? = some j
theorem insG_size {α : Type} (xs : Array α) {p : Nat} (x : α) (hp : p ≤ xs.size) : (SetTable.insertAt xs p x).size = xs.size + 1 := by
  unfold SetTable.insertAt
  simp
  omega
theorem insG_toList {α : Type} (xs : Array α) (p : Nat) (x : α) : (SetTable.insertAt xs p x).toList = xs.toList.take p ++ x :: xs.toList.drop p := by
  unfold SetTable.insertAt
  simp [Array.toList_extract]
  rw [List.take_of_length_le (by simp)]
theorem insG_perm {α : Type} (xs : Array α) (p : Nat) (x : α) : (SetTable.insertAt xs p x).toList.Perm (x :: xs.toList) := by
  rw [insG_toList]
  exact List.perm_middle.trans (by rw [List.take_append_drop])
theorem ins_zip {α β : Type} {xs : Array α} {ys : Array β} (h : xs.size = ys.size) (p : Nat) (x : α) (y : β) : ∀ q ∈ (SetTable.insertAt xs p x).toList.zip (SetTable.insertAt ys p y).toList, q = (x, y) ∨ q ∈ xs.toList.zip ys.toList := fun q hq => by
  have hl : xs.toList.length = ys.toList.length := by simpa using h
  rw [insG_toList, insG_toList, List.zip_append (by rw [List.length_take, List.length_take, hl])] at hq
  rw [List.zip_cons_cons] at hq
  rcases List.mem_append.mp hq with z | z
  · rw [← List.take_append_drop p xs.toList, ← List.take_append_drop p ys.toList, List.zip_append (by rw [List.length_take, List.length_take, hl])]
    exact .inr (List.mem_append_left _ z)
  · rcases List.mem_cons.mp z with z | z
    · exact .inl z
    · rw [← List.take_append_drop p xs.toList, ← List.take_append_drop p ys.toList, List.zip_append (by rw [List.length_take, List.length_take, hl])]
      exact .inr (List.mem_append_right _ z)
/-- the table of a set to which things were only added -/
structure HT (t : SetTable) (es : Array Ent) (led : Bool) : Prop where
  size : t.place.size = es.size
  dum : t.dummies = #[]
  rise : Rise t.place
  led : t.led = led
  plain : t.plain = true
  pow : ∃ k, 3 ≤ k ∧ k ≤ 13 ∧ t.mask + 1 = 2 ^ k
  top : ∀ i j : Nat, t.place[i]? = some j → j ≤ t.mask
  room : es.size * 5 < t.mask * 3
  path : ∀ q ∈ t.place.toList.zip es.toList, Path (Occ t) t.mask (st0 t.mask q.2.1) q.1
theorem HT.fresh (led : Bool) : HT (.fresh 0 0 led) #[] led := ⟨rfl, rfl, fun a b _ h => absurd h (Nat.not_lt_zero _), rfl, rfl, ⟨3, by decide, by decide, rfl⟩, fun i j h => by simp [SetTable.fresh] at h, by show 0 * 5 < 7 * 3; decide, fun q hq => by cases hq⟩
variable {t : SetTable} {es : Array Ent} {led : Bool}
theorem HT.fits (T : HT t es led) : t.fits es.size = true := by
  have h1 := T.size
  have h2 := T.room
  unfold SetTable.fits SetTable.fill
  rw [T.dum, h1]
  simp
  omega
theorem HT.mask_le (T : HT t es led) : t.mask ≤ 8191 := by
  obtain ⟨k, h1, h2, h3⟩ := T.pow
  have : 2 ^ k ≤ 2 ^ 13 := Nat.pow_le_pow_right (by decide) h2
  omega
theorem HT.keeps_way (T : HT t es led) : t.gaveWay = false := by
  obtain ⟨k, h1, h2, h3⟩ := T.pow
  unfold SetTable.gaveWay
  rw [beq_eq_false_iff_ne]
  obtain ⟨k, rfl⟩ : ∃ n, k = n + 1 := ⟨k - 1, by omega⟩
  rw [Nat.pow_succ] at h3
  omega
/-- some slot is free -/
theorem free_slot_of {place : Array Nat} {m n : Nat} (hs : place.size = n) (hn : n ≤ m) (R : Rise place) : ∃ e, e ≤ m ∧ ¬ ∃ i : Nat, place[i]? = some e := by
  refine Classical.byContradiction fun hno => ?_
  have hall : ∀ e, e ≤ m → ∃ i : Nat, place[i]? = some e := fun e he => Classical.byContradiction fun z => hno ⟨e, he, z⟩
  have h1 : (List.range (m + 1)) ⊆ place.toList := fun e he => by
    obtain ⟨i, hi⟩ := hall e (by have := List.mem_range.mp he; omega)
    exact List.mem_of_getElem? (by rw [Array.getElem?_toList]; exact hi)
  have h2 := List.Nodup.length_le_of_subset List.nodup_range h1
  rw [List.length_range, Array.length_toList] at h2
  omega
theorem HT.free (T : HT t es led) : ∃ e, e ≤ t.mask ∧ ¬ Occ t e := free_slot_of T.size (by have := T.room; omega) T.rise
theorem HT.meets (T : HT t es led) (h : Int) : Meets (Occ t) t.mask (10 * SetTable.turns t.mask) (st0 t.mask h) := by
  obtain ⟨k, _, _, hk⟩ := T.pow
  obtain ⟨e, he, hc⟩ := T.free
  exact start_meets hk h he hc
theorem slot_occ (hd : t.dummies = #[]) {j : Nat} : ¬ Occ t j → t.slot j = .empty := fun h => by
  cases e : t.slot j with
  | empty => rfl
  | dummy =>
    rw [slot_at hd] at e
    split at e <;> cases e
  | live i => exact absurd ⟨i, slot_live hd e⟩ h
theorem slot_nocc (hd : t.dummies = #[]) (R : Rise t.place) {j : Nat} (h : t.slot j = .empty) : ¬ Occ t j := fun ⟨i, hi⟩ => by
  obtain ⟨hlt, e⟩ := Array.getElem?_eq_some_iff.mp hi
  refine slot_free hd R h i hlt ?_
  rw [Array.getD_eq_getD_getElem?, hi]; rfl
theorem slot_uniq (hd : t.dummies = #[]) (R : Rise t.place) {i j : Nat} (h : t.place[i]? = some j) : t.slot j = .live i := by
  cases e : t.slot j with
  | empty => exact absurd ⟨i, h⟩ (slot_nocc hd R e)
  | dummy =>
    rw [slot_at hd] at e
    split at e <;> cases e
  | live i' =>
    have h' := slot_live hd e
    obtain ⟨l1, e1⟩ := Array.getElem?_eq_some_iff.mp h
    obtain ⟨l2, e2⟩ := Array.getElem?_eq_some_iff.mp h'
    have g1 : t.place.getD i 0 = j := by rw [Array.getD_eq_getD_getElem?, h]; rfl
    have g2 : t.place.getD i' 0 = j := by rw [Array.getD_eq_getD_getElem?, h']; rfl
    have : i = i' := by
      rcases Nat.lt_trichotomy i i' with z | z | z
      · have := R i i' z l2; omega
      · exact z
      · have := R i' i z l1; omega
    rw [this]
/-- slots whose thing has another hash -/
def Oth (t : SetTable) (hA : Nat → Int) (h : Int) (j : Nat) : Prop := ∃ i : Nat, t.place[i]? = some j ∧ hA i ≠ h
/-- what a look at the table from p on meets -/
theorem probe_spec (hd : t.dummies = #[]) (R : Rise t.place) {hA : Nat → Int} {h : Int} : ∀ (f F : Nat) (p : Pb), f ≤ F → p.dummy = none → Meets (Occ t) t.mask f p →
    (∃ j, SetTable.probe.go t hA h F p = some (.empty j none) ∧ ¬ Occ t j ∧ Path (Oth t hA h) t.mask p j) ∨
    (∃ i q f', SetTable.probe.go t hA h F p = some (.candidate q.j i (adv t.mask q)) ∧ t.place[i]? = some q.j ∧ hA i = h ∧ q.dummy = none ∧ f' < f ∧ Meets (Occ t) t.mask f' (adv t.mask q) ∧
      (∀ (C : Nat → Prop) (j : Nat), (∀ x, Oth t hA h x → C x) → C q.j → Path C t.mask (adv t.mask q) j → Path C t.mask p j))
  | 0, _, p, _, _, hm => hm.elim
  | f + 1, F, p, hF, hp, hm => by
    obtain ⟨F, rfl⟩ : ∃ g, F = g + 1 := ⟨F - 1, by omega⟩
    unfold SetTable.probe.go
    by_cases ho : Occ t p.j
    · have hm' : Meets (Occ t) t.mask f (adv t.mask p) := hm.elim (fun z => absurd ho z) id
      obtain ⟨i, hi⟩ := ho
      rw [slot_uniq hd R hi]
      dsimp only
      by_cases hh : hA i = h
      · rw [if_pos (by simpa using hh), adv_eq]
        exact .inr ⟨i, p, f, rfl, hi, hh, hp, by omega, hm', fun C j hC hc hP => .step p j hc hP⟩
      · rw [if_neg (by simpa using hh), adv_eq]
        rcases probe_spec hd R f F (adv t.mask p) (by omega) (by rw [adv_dummy]; exact hp) hm' with ⟨j, a, b, c⟩ | ⟨i', q, f', a, b, c, d, e, g, k⟩
        · exact .inl ⟨j, a, b, .step p j ⟨i, hi, hh⟩ c⟩
        · exact .inr ⟨i', q, f', a, b, c, d, by omega, g, fun C j hC hc hP => .step p j (hC _ ⟨i, hi, hh⟩) (k C j hC hc hP)⟩
    · rw [slot_occ hd ho]
      exact .inl ⟨p.j, by dsimp only; rw [hp], ho, .here p⟩
/-- a thing is put into the free slot that its look ended at -/
theorem HT.put (T : HT t es led) {h : Int} {x : Value} {j : Nat} (hj : ¬ Occ t j) (hm : j ≤ t.mask) (hp : Path (Occ t) t.mask (st0 t.mask h) j) :
    (t.put j).1.place.size = (SetTable.insertAt es (t.put j).2 (h, x)).size ∧ (SetTable.insertAt es (t.put j).2 (h, x)).size = es.size + 1 ∧ (t.put j).1.dummies = #[] ∧ Rise (t.put j).1.place ∧ (t.put j).1.led = led ∧ (t.put j).1.plain = true ∧ (t.put j).1.mask = t.mask ∧ (t.put j).1.finger = t.finger ∧ (t.put j).1.moves = t.moves ∧
    (∀ i k : Nat, (t.put j).1.place[i]? = some k → k ≤ t.mask) ∧ (∀ q ∈ (t.put j).1.place.toList.zip (SetTable.insertAt es (t.put j).2 (h, x)).toList, Path (Occ (t.put j).1) t.mask (st0 t.mask q.2.1) q.1) := by
  have hb := below_at (j := j) T.rise
  have hle := hb.le
  have hle' : SetTable.below t.place j ≤ es.size := by rw [← T.size]; exact hle
  have e1 : (t.put j).1.place = SetTable.insertAt t.place (SetTable.below t.place j) j := rfl
  have e2 : (t.put j).2 = SetTable.below t.place j := rfl
  have mem : ∀ k, k ∈ (t.put j).1.place.toList ↔ k = j ∨ k ∈ t.place.toList := fun k => by
    rw [e1, (insG_perm _ _ _).mem_iff, List.mem_cons]
  have occ : ∀ k, Occ t k → Occ (t.put j).1 k := fun k ⟨i, hi⟩ => by
    have := (mem k).mpr (.inr (List.mem_of_getElem? (by rw [Array.getElem?_toList]; exact hi)))
    obtain ⟨i', hi'⟩ := List.mem_iff_getElem?.mp this
    exact ⟨i', by rw [← Array.getElem?_toList]; exact hi'⟩
  refine ⟨?_, ?_, ?_, ?_, T.led, T.plain, rfl, rfl, rfl, ?_, ?_⟩
  · rw [e1, e2, insG_size _ _ hle, insG_size _ _ hle', T.size]
  · rw [e2, insG_size _ _ hle']
  · show (if SetTable.has t.dummies j = true then _ else t.dummies) = #[]
    rw [T.dum]; rfl
  · rw [e1]
    exact ins_rise T.rise fun i hi e => hj ⟨i, by rw [← e, Array.getD_eq_getD_getElem?, Array.getElem?_eq_getElem hi]; rfl⟩
  · intro i k hk
    have := (mem k).mp (List.mem_of_getElem? (by rw [Array.getElem?_toList]; exact hk))
    rcases this with z | z
    · rw [z]; exact hm
    · obtain ⟨i', hi'⟩ := List.mem_iff_getElem?.mp z
      exact T.top i' k (by rw [← Array.getElem?_toList]; exact hi')
  · intro q hq
    rw [e1, e2] at hq
    rcases ins_zip T.size _ _ _ q hq with z | z
    · rw [z]; exact hp.mono occ
    · exact (T.path q z).mono occ
end Be

namespace Be
open PySem
/-! ### a set's table laid anew -/
theorem run_top {m i : Nat} (h : i ≤ m) : SetTable.runEnd m i ≤ m := by
  unfold SetTable.runEnd
  split <;> omega
theorem run_ge (m i : Nat) : i ≤ SetTable.runEnd m i := by
  unfold SetTable.runEnd
  split <;> omega
theorem adv_top {m : Nat} {p : Pb} (h : p.j + p.more ≤ m) : (adv m p).j + (adv m p).more ≤ m := by
  unfold adv
  split
  · show p.j + 1 + (p.more - 1) ≤ m
    omega
  · have hl : (SetTable.leap m p.i p.perturb).1 ≤ m := Nat.le_of_lt_succ (Nat.mod_lt _ (Nat.succ_pos m))
    have := run_top hl
    have := run_ge m (SetTable.leap m p.i p.perturb).1
    show (SetTable.leap m p.i p.perturb).1 + (SetTable.runEnd m (SetTable.leap m p.i p.perturb).1 - (SetTable.leap m p.i p.perturb).1) ≤ m
    omega
theorem Path.top {C : Nat → Prop} {m : Nat} {p : Pb} {j : Nat} (h : Path C m p j) (hp : p.j + p.more ≤ m) : j ≤ m := by
  induction h with
  | here p => omega
  | step p j _ _ ih => exact ih (adv_top hp)
theorem st0_top (m : Nat) (h : Int) : (st0 m h).j + (st0 m h).more ≤ m := by
  have hl : SetTable.bits h % (m + 1) ≤ m := Nat.le_of_lt_succ (Nat.mod_lt _ (Nat.succ_pos m))
  have := run_top hl
  have := run_ge m (SetTable.bits h % (m + 1))
  show SetTable.bits h % (m + 1) + (SetTable.runEnd m (SetTable.bits h % (m + 1)) - SetTable.bits h % (m + 1)) ≤ m
  omega
/-- slots along a run -/
theorem run_path {C : Nat → Prop} {m i pert k : Nat} (hk : i + k ≤ SetTable.runEnd m i) (hc : ∀ a, a < k → C (i + a)) : Path C m (lst m i pert) (i + k) := by
  have gen : ∀ (k : Nat) (p : Pb), k ≤ p.more → (∀ a, a < k → C (p.j + a)) → Path C m p (p.j + k) := by
    intro k
    induction k with
    | zero => exact fun p _ _ => .here p
    | succ k ih =>
      intro p hp hc
      have e : adv m p = { p with j := p.j + 1, more := p.more - 1 } := by
        unfold adv
        rw [if_pos (by omega)]
      refine .step p _ (hc 0 (by omega)) ?_
      rw [e]
      have := ih { p with j := p.j + 1, more := p.more - 1 } (by show k ≤ p.more - 1; omega) fun a ha => by
        show C (p.j + 1 + a)
        rw [show p.j + 1 + a = p.j + (a + 1) by omega]
        exact hc _ (by omega)
      rw [show p.j + (k + 1) = p.j + 1 + k by omega]
      exact this
  exact gen k (lst m i pert) (by show k ≤ SetTable.runEnd m i - i; omega) hc
/-- along a whole run and a leap -/
theorem leap_path {C : Nat → Prop} {m i pert j : Nat} (hc : ∀ a, i ≤ a → a ≤ SetTable.runEnd m i → C a) (h : Path C m (lst m (SetTable.leap m i pert).1 (SetTable.leap m i pert).2) j) : Path C m (lst m i pert) j := by
  have gen : ∀ (k : Nat) (p : Pb), p.more = k → p.i = i → p.perturb = pert → p.dummy = none → (∀ a, a ≤ k → C (p.j + a)) → Path C m p j := by
    intro k
    induction k with
    | zero =>
      intro p hk hi hp hd hc'
      refine .step p j (hc' 0 (Nat.le_refl _)) ?_
      have e : adv m p = lst m (SetTable.leap m i pert).1 (SetTable.leap m i pert).2 := by
        unfold adv
        rw [if_neg (by omega), hi, hp]
        unfold lst
        rw [← hd]
      rw [e]; exact h
    | succ k ih =>
      intro p hk hi hp hd hc'
      refine .step p j (hc' 0 (by omega)) ?_
      have e : adv m p = { p with j := p.j + 1, more := p.more - 1 } := by
        unfold adv
        rw [if_pos (by omega)]
      rw [e]
      refine ih _ (by show p.more - 1 = k; omega) hi hp hd fun a ha => ?_
      show C (p.j + 1 + a)
      rw [show p.j + 1 + a = p.j + (a + 1) by omega]
      exact hc' _ (by omega)
  refine gen _ (lst m i pert) rfl rfl rfl rfl fun a ha => hc _ (Nat.le_add_right _ _) ?_
  have h1 : a ≤ SetTable.runEnd m i - i := ha
  have h2 := run_ge m i
  show i + a ≤ _
  omega
abbrev Own := Array (Option Nat)
def OccO (o : Own) (j : Nat) : Prop := ∃ i, o[j]? = some (some i)
theorem free_spec {o : Own} {m : Nat} (hz : o.size = m + 1) : ∀ (F i pert : Nat), i ≤ m → (∃ n, n < F ∧ ¬ OccO o (lit m n (i, pert)).1) →
    ∃ j, SetTable.layClean.free m o F i pert = some j ∧ j ≤ m ∧ ¬ OccO o j ∧ Path (OccO o) m (lst m i pert) j
  | 0, i, pert, hi, ⟨n, h, _⟩ => by omega
  | F + 1, i, pert, hi, ⟨n, h, hc⟩ => by
    unfold SetTable.layClean.free
    have ht := run_top hi
    have hg := run_ge m i
    have occ : ∀ a, a ≤ m → ((o.getD a (some 0)).isNone = false ↔ OccO o a) := fun a ha => by
      rw [Array.getD_eq_getD_getElem?, Array.getElem?_eq_getElem (show a < o.size by omega)]
      unfold OccO
      rw [Array.getElem?_eq_getElem (show a < o.size by omega)]
      cases hx : o[a] with
      | none => simp
      | some v => simp
    cases hf : (List.range (SetTable.runEnd m i + 1 - i)).find? fun k => (o.getD (i + k) (some 0)).isNone with
    | some k =>
      try dsimp only
      have hk := List.mem_range.mp (List.mem_of_find?_eq_some hf)
      have hp : (o.getD (i + k) (some 0)).isNone = true := List.find?_some (p := fun k => (o.getD (i + k) (some 0)).isNone) hf
      have hno : ¬ OccO o (i + k) := fun z => by
        have := (occ (i + k) (by omega)).mpr z
        rw [hp] at this; cases this
      refine ⟨i + k, rfl, by omega, hno, run_path (by omega) fun a ha => ?_⟩
      refine (occ (i + a) (by omega)).mp ?_
      obtain ⟨_, as, bs, e, hall⟩ := List.find?_eq_some_iff_append.mp hf
      have hlen : as.length = k := by
        have h1 := congrArg (fun l => l[as.length]?) e
        rw [List.getElem?_append_right (Nat.le_refl _), Nat.sub_self, List.getElem?_cons_zero] at h1
        have h2 := List.getElem?_eq_some_iff.mp h1
        obtain ⟨h3, h4⟩ := h2
        rw [List.getElem_range] at h4
        exact h4
      have ham : a ∈ as := by
        have h1 : (List.range (SetTable.runEnd m i + 1 - i))[a]? = some a := List.getElem?_range (by omega)
        rw [e, List.getElem?_append_left (by omega)] at h1
        exact List.mem_of_getElem? h1
      have := hall a ham
      simpa using this
    | none =>
      try dsimp only
      have hall := List.find?_eq_none.mp hf
      have hocc : ∀ a, i ≤ a → a ≤ SetTable.runEnd m i → OccO o a := fun a h1 h2 => by
        have := hall (a - i) (List.mem_range.mpr (by omega))
        rw [show i + (a - i) = a by omega] at this
        exact (occ a (by omega)).mp (by
          cases z : (o.getD a (some 0)).isNone with
          | false => rfl
          | true => exact absurd z this)
      cases n with
      | zero => exact absurd (hocc i (Nat.le_refl _) hg) hc
      | succ n =>
        obtain ⟨j, a, b, c, d⟩ := free_spec hz F (SetTable.leap m i pert).1 (SetTable.leap m i pert).2 (Nat.le_of_lt_succ (Nat.mod_lt _ (Nat.succ_pos m))) ⟨n, by omega, hc⟩
        exact ⟨j, a, b, c, leap_path hocc d⟩
/-- what is laid of the first k things -/
structure LC (m : Nat) (o : Own) (hs : Nat → Int) (k : Nat) : Prop where
  size : o.size = m + 1
  lt : ∀ j i : Nat, o[j]? = some (some i) → i < k
  uniq : ∀ j j' i : Nat, o[j]? = some (some i) → o[j']? = some (some i) → j = j'
  has : ∀ i, i < k → ∃ j, o[j]? = some (some i) ∧ Path (OccO o) m (st0 m (hs i)) j
theorem LC.free {m k : Nat} {o : Own} {hs : Nat → Int} (L : LC m o hs k) (hk : k ≤ m) : ∃ e, e ≤ m ∧ ¬ OccO o e := by
  refine Classical.byContradiction fun hno => ?_
  have hall : ∀ e, e ≤ m → OccO o e := fun e he => Classical.byContradiction fun z => hno ⟨e, he, z⟩
  have hf : ∀ e : Nat, ∃ i : Nat, e ≤ m → o[e]? = some (some i) := fun e => by
    by_cases he : e ≤ m
    · obtain ⟨i, hi⟩ := hall e he
      exact ⟨i, fun _ => hi⟩
    · exact ⟨0, fun z => absurd z he⟩
  obtain ⟨g, hg⟩ : ∃ g : Nat → Nat, ∀ e, e ≤ m → o[e]? = some (some (g e)) := ⟨fun e => Classical.choose (hf e), fun e => Classical.choose_spec (hf e)⟩
  have nd : ((List.range (m + 1)).map g).Nodup := by
    rw [List.Nodup, List.pairwise_map]
    refine List.Pairwise.imp_of_mem (fun {a b} ha hb hne e => ?_) (List.nodup_range (n := m + 1))
    have ha' := hg a (by have := List.mem_range.mp ha; omega)
    have hb' := hg b (by have := List.mem_range.mp hb; omega)
    rw [e] at ha'
    exact hne (L.uniq _ _ _ ha' hb')
  have h2 := List.Nodup.length_le_of_subset nd (l₂ := List.range k) fun x hx => by
    obtain ⟨e, he, rfl⟩ := List.mem_map.mp hx
    exact List.mem_range.mpr (L.lt e _ (hg e (by have := List.mem_range.mp he; omega)))
  rw [List.length_map, List.length_range, List.length_range] at h2
  omega
theorem LC.next {m k kk : Nat} {o : Own} {hs : Nat → Int} (hm : m + 1 = 2 ^ kk) (L : LC m o hs k) (hk : k ≤ m) :
    ∃ j, SetTable.layClean.free m o (SetTable.turns m) (SetTable.bits (hs k) % (m + 1)) (SetTable.bits (hs k)) = some j ∧ LC m (o.setIfInBounds j (some k)) hs (k + 1) := by
  obtain ⟨e, he, hc⟩ := L.free hk
  obtain ⟨n, hn, q⟩ := leaps_all hm (hs k) e he
  obtain ⟨j, a, b, c, d⟩ := free_spec L.size (SetTable.turns m) (SetTable.bits (hs k) % (m + 1)) (SetTable.bits (hs k)) (Nat.le_of_lt_succ (Nat.mod_lt _ (Nat.succ_pos m))) ⟨n, hn, by rw [q]; exact hc⟩
  have hjs : j < o.size := by rw [L.size]; omega
  have get : ∀ x : Nat, (o.setIfInBounds j (some k))[x]? = if x = j then some (some k) else o[x]? := fun x => by
    rw [Array.getElem?_setIfInBounds]
    by_cases e : j = x
    · rw [if_pos e, if_pos e.symm, if_pos hjs]
    · rw [if_neg e, if_neg (fun z => e z.symm)]
  have occ : ∀ x, OccO o x → OccO (o.setIfInBounds j (some k)) x := fun x ⟨i, hi⟩ => by
    by_cases e : x = j
    · exact ⟨k, by rw [get, if_pos e]⟩
    · exact ⟨i, by rw [get, if_neg e]; exact hi⟩
  refine ⟨j, a, ?_, ?_, ?_, ?_⟩
  · rw [Array.size_setIfInBounds]; exact L.size
  · intro x i hx
    rw [get] at hx
    split at hx
    · injection hx with hx
      injection hx with hx
      omega
    · have := L.lt x i hx; omega
  · intro x y i hx hy
    rw [get] at hx hy
    split at hx
    · next ex =>
      injection hx with hx
      injection hx with hx
      split at hy
      · next ey => rw [ex, ey]
      · have := L.lt y i hy; omega
    · split at hy
      · injection hy with hy
        injection hy with hy
        have := L.lt x i hx; omega
      · exact L.uniq x y i hx hy
  · intro i hi
    by_cases e : i = k
    · subst e
      exact ⟨j, by rw [get, if_pos rfl], d.mono occ⟩
    · obtain ⟨x, hx, hp⟩ := L.has i (by omega)
      refine ⟨x, ?_, hp.mono occ⟩
      rw [get, if_neg (fun z => c ⟨i, by rw [← z]; exact hx⟩)]
      exact hx
theorem lay_clean {m kk : Nat} (hm : m + 1 = 2 ^ kk) (hashes : Array Int) (hn : hashes.size ≤ m + 1) : ∃ o, SetTable.layClean m hashes = some o ∧ LC m o (fun i => hashes.getD i 0) hashes.size := by
  have L0 : LC m (Array.replicate (m + 1) none) (fun i => hashes.getD i 0) 0 := by
    have hnone : ∀ j i : Nat, (Array.replicate (m + 1) (none : Option Nat))[j]? ≠ some (some i) := fun j i h => by
      obtain ⟨h1, h2⟩ := Array.getElem?_eq_some_iff.mp h
      rw [Array.getElem_replicate] at h2
      cases h2
    exact ⟨by simp, fun j i h => absurd h (hnone j i), fun j j' i h => absurd h (hnone j i), fun i hi => absurd hi (Nat.not_lt_zero _)⟩
  unfold SetTable.layClean
  rw [← Array.foldl_toList]
  have gen : ∀ (l : List Int) (o : Own) (k : Nat), LC m o (fun i => hashes.getD i 0) k → hashes.toList.drop k = l → k + l.length = hashes.size →
      ∃ o', l.foldl (fun acc h => do
        let (owner, k) ← acc
        let j ← SetTable.layClean.free m owner (SetTable.turns m) (SetTable.bits h % (m + 1)) (SetTable.bits h)
        pure (owner.setIfInBounds j (some k), k + 1)) (some (o, k)) = some (o', hashes.size) ∧ LC m o' (fun i => hashes.getD i 0) hashes.size := by
    intro l
    induction l with
    | nil =>
      intro o k L _ hk
      have e : k = hashes.size := by simpa using hk
      subst e
      exact ⟨o, rfl, L⟩
    | cons h l ih =>
      intro o k L hd hk
      rw [List.length_cons] at hk
      have hh : hashes.getD k 0 = h := by
        have h1 : (hashes.toList.drop k)[0]? = some h := by rw [hd]; rfl
        rw [List.getElem?_drop, Nat.add_zero, Array.getElem?_toList] at h1
        rw [Array.getD_eq_getD_getElem?, h1]; rfl
      obtain ⟨j, a, L'⟩ := L.next hm (by omega)
      rw [hh] at a
      rw [List.foldl_cons]
      have e : (do
          let (owner, k) ← some (o, k)
          let j ← SetTable.layClean.free m owner (SetTable.turns m) (SetTable.bits h % (m + 1)) (SetTable.bits h)
          pure (owner.setIfInBounds j (some k), k + 1)) = some (o.setIfInBounds j (some k), k + 1) := by
        show (SetTable.layClean.free m o (SetTable.turns m) (SetTable.bits h % (m + 1)) (SetTable.bits h) >>= fun j => pure (o.setIfInBounds j (some k), k + 1)) = _
        rw [a]; rfl
      rw [e]
      refine ih _ _ L' ?_ (by omega)
      rw [← List.drop_drop (i := 1) (j := k)] 
      rw [hd]; rfl
  obtain ⟨o, h1, h2⟩ := gen hashes.toList _ 0 L0 rfl (by simp)
  exact ⟨o, by rw [h1]; rfl, h2⟩
end Be

namespace Be
open PySem
/-! ### the table that grows -/
theorem sizeAbove_go : ∀ (f k n : Nat), n < 2 ^ (k + f) → ∃ r, SetTable.sizeAbove.go n f (2 ^ k) = 2 ^ r ∧ k ≤ r ∧ n < 2 ^ r ∧ (r = k ∨ 2 ^ r ≤ 2 * n)
  | 0, k, n, h => ⟨k, rfl, Nat.le_refl _, h, .inl rfl⟩
  | f + 1, k, n, h => by
    unfold SetTable.sizeAbove.go
    by_cases hk : 2 ^ k ≤ n
    · rw [if_pos hk]
      obtain ⟨r, a, b, c, d⟩ := sizeAbove_go f (k + 1) n (by rw [show k + 1 + f = k + (f + 1) by omega]; exact h)
      rw [Nat.pow_succ] at a
      refine ⟨r, a, by omega, c, ?_⟩
      rcases d with z | z
      · rw [z, Nat.pow_succ]; exact .inr (by omega)
      · exact .inr z
    · rw [if_neg hk]
      exact ⟨k, rfl, Nat.le_refl _, by omega, .inl rfl⟩
theorem sizeAbove_spec {n : Nat} (h : n < 2 ^ 20) : ∃ r, SetTable.sizeAbove n = 2 ^ r ∧ 3 ≤ r ∧ n < 2 ^ r ∧ (r = 3 ∨ 2 ^ r ≤ 2 * n) := by
  unfold SetTable.sizeAbove
  obtain ⟨r, a, b, c, d⟩ := sizeAbove_go 64 3 n (Nat.lt_of_lt_of_le h (Nat.pow_le_pow_right (by decide) (by decide)))
  exact ⟨r, a, b, c, d⟩
theorem filterMap_range_pair {α : Type} (g : Nat → Option α) (m : Nat) : ((List.range m).filterMap fun j => (g j).map (j, ·)).Pairwise (fun a b => a.1 < b.1) := by
  rw [List.pairwise_filterMap]
  refine List.Pairwise.imp (fun {a b} hab => ?_) (List.pairwise_lt_range (n := m))
  intro x hx y hy
  obtain ⟨u, _, rfl⟩ := Option.map_eq_some_iff.mp hx
  obtain ⟨v, _, rfl⟩ := Option.map_eq_some_iff.mp hy
  exact hab
theorem filterMap_get {α : Type} {es : Array α} {l : List Nat} (h : ∀ i ∈ l, i < es.size) (d : α) : l.filterMap (es[·]?) = l.map fun i => es.getD i d := by
  induction l with
  | nil => rfl
  | cons i l ih =>
    have hi := h i List.mem_cons_self
    rw [List.filterMap_cons, Array.getElem?_eq_getElem hi, List.map_cons, ih fun j hj => h j (List.mem_cons_of_mem _ hj)]
    show es[i] :: _ = _
    rw [Array.getD_eq_getD_getElem?, Array.getElem?_eq_getElem hi]; rfl
theorem zip_map_map {α β γ : Type} (f : α → β) (g : α → γ) : ∀ l : List α, (l.map f).zip (l.map g) = l.map fun x => (f x, g x)
  | [] => rfl
  | x :: l => by rw [List.map_cons, List.map_cons, List.zip_cons_cons, zip_map_map f g l]; rfl
/-- laid anew, larger -/
theorem laid_ok {es : Array Ent} {m kk finger moves : Nat} {led : Bool} (hm : m + 1 = 2 ^ kk) (h3 : 3 ≤ kk) (h13 : kk ≤ 13) (room : es.size * 5 < m * 3) :
    ∃ t order, SetTable.laid m finger moves led true (es.map (·.1)) = some (t, order) ∧ HT t (order.filterMap (es[·]?)) led ∧ (order.filterMap (es[·]?)).toList.Perm es.toList := by
  have hz : (es.map (·.1)).size = es.size := Array.size_map
  obtain ⟨o, e, L⟩ := lay_clean hm (es.map (·.1)) (by rw [hz]; omega)
  rw [hz] at L
  have hh : ∀ i, i < es.size → (es.map (·.1)).getD i 0 = (es.getD i dE).1 := fun i hi => by
    rw [Array.getD_eq_getD_getElem?, Array.getD_eq_getD_getElem?, Array.getElem?_map, Array.getElem?_eq_getElem hi]; rfl
  unfold SetTable.laid
  rw [e]
  refine ⟨_, _, rfl, ?_⟩
  generalize hl : ((List.range (m + 1)).filterMap fun j => (o.getD j none).map (j, ·)) = live
  have hmem : ∀ q : Nat × Nat, q ∈ live ↔ q.1 ≤ m ∧ o[q.1]? = some (some q.2) := fun q => by
    rw [← hl, List.mem_filterMap]
    have hget : ∀ j, j ≤ m → o[j]? = some (o.getD j none) := fun j hj => by
      rw [Array.getD_eq_getD_getElem?, Array.getElem?_eq_getElem (show j < o.size by rw [L.size]; omega)]; rfl
    constructor
    · rintro ⟨j, hj, q1⟩
      have hj := List.mem_range.mp hj
      obtain ⟨u, hu, rfl⟩ := Option.map_eq_some_iff.mp q1
      exact ⟨by show j ≤ m; omega, by rw [hget j (by omega), hu]⟩
    · rintro ⟨h1, h2⟩
      refine ⟨q.1, List.mem_range.mpr (by omega), ?_⟩
      rw [hget _ h1] at h2
      rw [Option.some.inj h2]; rfl
  have hpw : live.Pairwise (fun a b => a.1 < b.1) := by rw [← hl]; exact filterMap_range_pair _ _
  have hlt : ∀ i ∈ live.map (·.2), i < es.size := fun i hi => by
    obtain ⟨q, hq, rfl⟩ := List.mem_map.mp hi
    exact L.lt _ _ ((hmem q).mp hq).2
  have hnd : (live.map (·.2)).Nodup := by
    rw [List.Nodup, List.pairwise_map]
    refine List.Pairwise.imp_of_mem (fun {a b} ha hb hab e => ?_) hpw
    have h1 := ((hmem a).mp ha).2
    have h2 := ((hmem b).mp hb).2
    rw [e] at h1
    have := L.uniq _ _ _ h1 h2
    omega
  have hall : ∀ i, i ∈ live.map (·.2) ↔ i < es.size := fun i => ⟨hlt i, fun hi => by
    obtain ⟨j, hj, _⟩ := L.has i hi
    have hjm : j ≤ m := by
      obtain ⟨h1, _⟩ := Array.getElem?_eq_some_iff.mp hj
      rw [L.size] at h1; omega
    exact List.mem_map.mpr ⟨(j, i), (hmem (j, i)).mpr ⟨hjm, hj⟩, rfl⟩⟩
  have hperm : (live.map (·.2)).Perm (List.range es.size) := (List.perm_ext_iff_of_nodup hnd List.nodup_range).mpr fun i => by rw [hall i, List.mem_range]
  have hes : ((live.map (·.2)).toArray.filterMap (es[·]?)) = ((live.map (·.2)).map fun i => es.getD i dE).toArray := by
    rw [List.filterMap_toArray, filterMap_get hlt]
  have hback : (List.range es.size).map (fun i => es.getD i dE) = es.toList := by
    apply List.ext_getElem?
    intro i
    by_cases hi : i < es.size
    · rw [List.getElem?_map, List.getElem?_range hi, Array.getElem?_toList, Array.getElem?_eq_getElem hi, Option.map_some, Array.getD_eq_getD_getElem?, Array.getElem?_eq_getElem hi]; rfl
    · rw [List.getElem?_eq_none (by simp; omega), List.getElem?_eq_none (by simp; omega)]
  have hp2 : ((live.map (·.2)).map fun i => es.getD i dE).Perm es.toList := by
    rw [← hback]; exact hperm.map _
  have hlen : live.length = es.size := by
    have := hperm.length_eq
    rwa [List.length_map, List.length_range] at this
  rw [hes]
  have occ : ∀ x, OccO o x → Occ { mask := m, place := (live.map (·.1)).toArray, dummies := #[], finger := finger, led := led, moves := moves, plain := true } x := fun x ⟨i, hi⟩ => by
    have hxm : x ≤ m := by
      obtain ⟨h1, _⟩ := Array.getElem?_eq_some_iff.mp hi
      rw [L.size] at h1; omega
    have : x ∈ live.map (·.1) := List.mem_map.mpr ⟨(x, i), (hmem (x, i)).mpr ⟨hxm, hi⟩, rfl⟩
    obtain ⟨k, hk⟩ := List.mem_iff_getElem?.mp this
    exact ⟨k, by simpa using hk⟩
  refine ⟨⟨?_, rfl, ?_, rfl, rfl, ⟨kk, h3, h13, hm⟩, ?_, ?_, ?_⟩, hp2⟩
  · simp
  · intro a b hab hb
    have hb' : b < (live.map (·.1)).length := by simpa using hb
    have hpw' : (live.map (·.1)).Pairwise (· < ·) := by rw [List.pairwise_map]; exact hpw
    have := List.pairwise_iff_getElem.mp hpw' a b (by omega) hb' hab
    show (live.map (·.1)).toArray.getD a 0 < (live.map (·.1)).toArray.getD b 0
    rw [Array.getD_eq_getD_getElem?, Array.getD_eq_getD_getElem?, List.getElem?_toArray, List.getElem?_toArray, List.getElem?_eq_getElem (show a < _ by omega), List.getElem?_eq_getElem hb']
    exact this
  · intro i j hij
    have : j ∈ live.map (·.1) := List.mem_of_getElem? (i := i) (by simpa using hij)
    obtain ⟨q, hq, rfl⟩ := List.mem_map.mp this
    exact ((hmem q).mp hq).1
  · simp only [List.size_toArray, List.length_map, hlen]
    exact room
  · intro q hq
    have hq' : q ∈ (live.map (·.1)).zip ((live.map (·.2)).map fun i => es.getD i dE) := hq
    rw [List.map_map, zip_map_map] at hq'
    obtain ⟨x, hx, rfl⟩ := List.mem_map.mp hq'
    obtain ⟨h1, h2⟩ := (hmem x).mp hx
    obtain ⟨j, hj, hP⟩ := L.has x.2 (L.lt _ _ h2)
    have ej := L.uniq _ _ _ hj h2
    subst ej
    have := hP.mono occ
    rw [hh x.2 (L.lt _ _ h2)] at this
    exact this
theorem relaid_ok {t : SetTable} {es : Array Ent} {led : Bool} (hl : t.led = led) (hp : t.plain = true) (hn : es.size ≤ 2000) (h5 : 2 ≤ es.size) :
    ∃ t' order, t.relaid (es.map (·.1)) (SetTable.grown es.size) = some (t', order) ∧ HT t' (order.filterMap (es[·]?)) led ∧ (order.filterMap (es[·]?)).toList.Perm es.toList ∧ SetTable.sizeAbove (SetTable.grown es.size) ≤ 2 ^ 15 := by
  have hg : SetTable.grown es.size = es.size * 4 := by unfold SetTable.grown; rw [if_neg (by omega)]
  rw [hg]
  obtain ⟨r, a, b, c, d⟩ := sizeAbove_spec (n := es.size * 4) (by omega)
  have hr : r ≤ 13 := by
    rcases d with z | z
    · omega
    · refine Nat.le_of_not_lt fun h => ?_
      have : 2 ^ 14 ≤ 2 ^ r := Nat.pow_le_pow_right (by decide) h
      omega
  have h15 : 2 ^ r ≤ 2 ^ 15 := Nat.pow_le_pow_right (by decide) (by omega)
  have hpos : 0 < 2 ^ r := Nat.pow_pos (by decide)
  unfold SetTable.relaid
  rw [a, hl, hp]
  obtain ⟨t', order, q1, q2, q3⟩ := laid_ok (es := es) (m := 2 ^ r - 1) (kk := r) (finger := t.finger) (moves := t.movedTo (2 ^ r - 1)) (led := led) (by omega) b hr (by omega)
  exact ⟨t', order, q1, q2, q3, h15⟩
end Be

/-! Keys that are tuples of some values and, last, a tuple of values; keys by an injective map. -/
namespace PySem
open Sem (wp)
abbrev NK (K1 K2 : Type) (m : Nat) := {x : List K1 × List K2 // x.1.length = m}
section
variable {prog : Program} {w : World} {K1 K2 : Type} [DecidableEq K1] [DecidableEq K2] (k1 : KeyKind prog w K1) (k2 : KeyKind prog w K2) (m : Nat)
def IsNest (h : Heap) (x : NK K1 K2 m) (a : Addr) : Prop := ∃ o b n vs, h.get? a = some o ∧ o.cls = .type "tuple" ∧ o.data = .seq (vs ++ [Value.ref b]).toArray n ∧ ItemsAre k1 x.1.1 vs ∧ IsTupleKey k2 h x.1.2 b
variable {k1 k2 m}
theorem IsNest.typeIs {s : Shared} {k : NK K1 K2 m} {a : Addr} (x : IsNest k1 k2 m s.heap k a) : s.TypeIs (.ref a) "tuple" := let ⟨o, _, _, _, ho, hc, _⟩ := x; ⟨o, ho, hc⟩
theorem IsNest.inj {h : Heap} {a : Addr} {x y : NK K1 K2 m} (hx : IsNest k1 k2 m h x a) (hy : IsNest k1 k2 m h y a) : x = y := by
  obtain ⟨o, b, n, v, ho, _, hd, hi, ht⟩ := hx
  obtain ⟨o', b', n', v', ho', _, hd', hi', ht'⟩ := hy
  obtain rfl : o = o' := Option.some.inj (ho.symm.trans ho')
  rw [hd] at hd'
  injection hd' with h1 _
  have e : v ++ [Value.ref b] = v' ++ [Value.ref b'] := by simpa using h1
  obtain ⟨e1, e2⟩ := List.append_inj' e rfl
  injection e2 with e2 _
  injection e2 with e2
  subst e1; subst e2
  obtain ⟨⟨x1, x2⟩, hx⟩ := x
  obtain ⟨⟨y1, y2⟩, hy⟩ := y
  have e1 : x1 = y1 := hi.inj hi'
  have e2 : x2 = y2 := ht.inj ht'
  subst e1; subst e2; rfl
theorem IsNest.keeps {h h' : Heap} {k : NK K1 K2 m} {a d : Addr} {o : Obj} {es ep} (x : IsNest k1 k2 m h k a) (ho : h.get? d = some o) (hd : o.data = .dict es ep) (hs : Heap.SameBut d h h') : IsNest k1 k2 m h' k a := by
  obtain ⟨o', b, n, v, ho', hc, hd', hi, ht⟩ := x
  have hne : a ≠ d := by
    rintro rfl
    obtain rfl : o' = o := Option.some.inj (ho'.symm.trans ho)
    rw [hd] at hd'; exact nomatch hd'
  exact ⟨o', b, n, v, (hs.2 a hne).trans ho', hc, hd', hi, ht.keeps ho hd hs⟩
variable {A : Around} {E : Value → Shared → Prop} {s : Shared}
end
end PySem

/-! A dict whose keys are of any kind of tuples: {}, {k: v}, k in d, d[k], d[k] = v, len. -/
namespace L2
open PySem PySem.Spec PyProof.Rows
structure KRel (P : Program) (w : World) (K : Type) [DecidableEq K] where
  hk : HeapKind P w K
  at_ : Hp → K → Addr → Prop
  by_ : ∀ {H : Hp} {h : Heap} {k : K} {b : Addr}, HOk P w H h → at_ H k b → hk.is h k b
  keep : ∀ {H H' : Hp} {k : K} {b : Addr}, (∀ a xs, H a = some (.tup xs) → H' a = some (.tup xs)) → at_ H k b → at_ H' k b
  room : ∀ {A : Around}, A.units + 2 < cLine → hk.room A.in1
  room0 : ∀ {A : Around}, A.units + 2 < cLine → hk.room A
abbrev GEnt (K : Type) := K × Addr × V
section
variable {P : Program} {w : World} {K : Type} [DecidableEq K] (R : KRel P w K)
def GKeys (H : Hp) (xs : List (GEnt K)) : Prop := ∀ x ∈ xs, R.at_ H x.1 x.2.1
variable {R}
def gAt (xs : List (GEnt K)) (k : K) : Option V := (xs.find? fun x => decide (x.1 = k)).map (·.2.2)
def gPut (xs : List (GEnt K)) (k : K) (b : Addr) (v : V) : List (GEnt K) := if (gAt xs k).isSome = true then xs.map (fun x => if x.1 = k then (x.1, x.2.1, v) else x) else xs ++ [(k, b, v)]
theorem GKeys.put {H : Hp} {xs : List (GEnt K)} {k : K} {b : Addr} {v : V} (h : GKeys R H xs) (hk : R.at_ H k b) : GKeys R H (gPut xs k b v) := fun x hx => by
  unfold gPut at hx
  split at hx
  · obtain ⟨y, hy, e⟩ := List.mem_map.mp hx
    by_cases z : y.1 = k
    · rw [if_pos z] at e; subst e; exact h y hy
    · rw [if_neg z] at e; subst e; exact h y hy
  · rcases List.mem_append.mp hx with q | q
    · exact h x q
    · rw [List.mem_singleton.mp q]; exact hk
theorem GKeys.keep {H H' : Hp} {xs : List (GEnt K)} (kp : ∀ a ys, H a = some (.tup ys) → H' a = some (.tup ys)) (h : GKeys R H xs) : GKeys R H' xs := fun x hx => R.keep kp (h x hx)
end
section
variable {X : Cx} {K : Type} [DecidableEq K] {i o : Expr} {ty td tv : TE} {pos pos' : Pos} {value : Expr}
end
/-! ### kinds: a number and truths; two numbers and truths; truths -/
section
variable (P : Program) (w : World)
end
end L2

namespace Be
open PySem L2
/-! ### a set of few ints that can be walked over -/
theorem TOk.fits {t : SetTable} {n : Nat} {led : Bool} (T : TOk t n led) (hn : n ≤ 7) : t.fits n = true := by
  have h1 := T.size
  have h2 := T.mask
  unfold SetTable.fits SetTable.fill
  rw [T.dum, h1]
  simp
  omega
theorem TOk.room {t : SetTable} {n : Nat} {led : Bool} (T : TOk t n led) (hn : n ≤ 3) : t.tooFull = false := by
  have h1 := T.size
  have h2 := T.mask
  unfold SetTable.tooFull SetTable.fill
  rw [T.dum, h1]
  simp
  omega
section
variable {prog : Program} {w : World} {A : Around} {E : Value → Shared → Prop} {s : Shared}
/-! ### set(xs) -/
open PyProof.Rows in
end
theorem erase_perm {α : Type} : ∀ (l : List α) (i : Nat) (h : i < l.length), (l[i] :: l.eraseIdx i).Perm l
  | a :: l, 0, _ => List.Perm.refl _
  | a :: l, i + 1, h => (List.Perm.swap a _ _).trans ((erase_perm l i (by rw [List.length_cons] at h; omega)).cons a)
theorem pick_perm {α : Type} (nx : Nat → Nat) : ∀ f k (l : List α) (out : Array α), f = l.length → (pickOrder.go nx f k l out).toList.Perm (out.toList ++ l)
  | 0, k, l, out, h => by
    unfold pickOrder.go
    rw [List.length_eq_zero_iff.mp h.symm, List.append_nil]
  | f + 1, k, l, out, h => by
    have hl : nx k % l.length < l.length := Nat.mod_lt _ (by omega)
    unfold pickOrder.go
    rw [List.getElem?_eq_getElem hl]
    dsimp only
    refine (pick_perm nx f (k + 1) _ _ (by rw [List.length_eraseIdx_of_lt hl]; omega)).trans ?_
    rw [Array.toList_push, List.append_assoc]
    exact List.Perm.append_left _ (erase_perm _ _ hl)
end Be

namespace Be
open PySem L2
abbrev byT (w : World) : Bool := w.params.followText "set-order"
abbrev newO (w : World) : Obj := { cls := .type "set", dict := none, data := .set #[] 0 (.fresh 0 0 (!byT w)) }
section
variable {prog : Program} {w : World} {A : Around} {E : Value → Shared → Prop} {s : Shared}
end
end Be

namespace Be
open PySem L2
theorem slot_sin : Slot "set_iterator" "__next__" "set_iterator.__next__" :=
  .of (owner := "set_iterator") (n := "__next__") (by rw [typeLookup_type, builtinLookup_eq_fast]; kernel_rfl) (by decide +kernel) (by decide +kernel) (by decide +kernel)
    (by first | exact .inl (by decide +kernel) | exact .inr (by decide +kernel)) (by rw [isSubtype_type]; kernel_rfl)
theorem entry_sin : entryFor table "set_iterator.__next__" = some Builtin.«set_iterator.__next__» := entryFor_of_fast (by kernel_rfl)
theorem args_sin (a : Value) : argsOk "set_iterator.__next__" ⟨[a], []⟩ := by unfold argsOk; kernel_rfl
theorem entry_sit : entryFor table "set.__iter__" = some Builtin.«frozenset.__iter__» :=
  entryFor_alias (id' := "frozenset.__iter__") (by kernel_rfl) rfl (by decide +kernel) (by kernel_rfl)
section
variable {prog : Program} {w : World} {A : Around} {E : Value → Shared → Prop} {s : Shared}
/-- where the walk stands -/
def nxt (t : SetTable) : Nat → Nat
  | 0 => 0
  | i + 1 => t.place.getD i 0 + 1
/-- the order of the walk -/
def ordS (w : World) (a : Addr) (ep : Nat) (es : Array (Int × Value)) : Array (Int × Value) := if byT w = true then pickOrder (w.params.setOrder a ep) es else es
def StS (w : World) (I a : Addr) (o : Obj) (es : Array (Int × Value)) (ep : Nat) (t : SetTable) (i : Nat) (h : Heap) : Prop :=
  (∃ oI sl, h.get? I = some oI ∧ oI.cls = .type "set_iterator" ∧ oI.data = .fields #[.int ((sl : Nat) : Int) 0, .int ((i : Nat) : Int) 0, .ref a, .int es.size 0, .int ep 0] ∧ (byT w = false → sl = nxt t i)) ∧ h.get? a = some o
theorem ord_size (w : World) (a : Addr) (ep : Nat) (es : Array (Int × Value)) : (ordS w a ep es).size = es.size := by
  unfold ordS
  split
  · have h := (pick_perm (w.params.setOrder a ep) es.size 0 es.toList #[] (by simp)).length_eq
    unfold pickOrder
    rw [← Array.length_toList, h]
    simp
  · rfl
end
end Be

namespace Be
open PySem L2
/-! ### keys whose hash and looks nobody sees -/
section
variable {M : Model} {A : Around} {E : Value → Shared → Prop} {s : Shared}
theorem hashBy_tuple {a : Addr} {o : Obj} {items : Array Value} {n : Nat} {Q : Bool → Shared → Prop} (ho : s.heap.get? a = some o) (hc : o.cls = .type "tuple") (hd : o.data = .seq items n) (hp : ∀ v ∈ items.toList, hashByValue 7 v = pure true) (h : Q true s) :
    wpAny M A (hashByValue 8 (.ref a)) Q E s := by
  unfold hashByValue
  refine wpAny_bind (wpAny_specialOf (show s.TypeIs (.ref a) "tuple" from ⟨o, ho, hc⟩) F.slot_tuple_hash.lookup ?_)
  show wpAny _ _ (seqItems? (.ref a) >>= _) _ _ s
  refine wpAny_bind (wpAny_seqItems ho hd ?_)
  show wpAny _ _ (forIn items _ _ >>= _) _ _ s
  refine wpAny_bind ?_
  rw [← Array.forIn_toList]
  refine wpAny_forIn_list _ (fun rest r s' => r.1 = none ∧ s' = s ∧ ∀ v ∈ rest, hashByValue 7 v = pure true) _ ?_ ?_ _ _ ⟨rfl, rfl, hp⟩
  · rintro v rest r s' ⟨hr, rfl, hall⟩
    rw [hall v List.mem_cons_self]
    refine wpAny_bind (wpAny_pure ?_)
    simp only [Bool.not_true, Bool.false_eq_true, if_false]
    exact wpAny_pure ⟨rfl, rfl, fun u hu' => hall u (List.mem_cons_of_mem _ hu')⟩
  · rintro ⟨r1, r2⟩ s' ⟨hr, rfl, _⟩
    simp only at hr
    subst hr
    exact wpAny_pure h
theorem stmt_tuple {a : Addr} {o : Obj} {items : Array Value} {n : Nat} {Q : Bool → Shared → Prop} (ho : s.heap.get? a = some o) (hc : o.cls = .type "tuple") (hd : o.data = .seq items n) (hp : ∀ v ∈ items.toList, ofAClassStatement 7 v = pure false) (h : Q false s) :
    wpAny M A (ofAClassStatement 8 (.ref a)) Q E s := by
  unfold ofAClassStatement
  refine wpAny_bind (wpAny_typeOf (T := "tuple") (show s.TypeIs (.ref a) "tuple" from ⟨o, ho, hc⟩) ?_)
  dsimp only
  rw [if_pos (by rfl)]
  refine wpAny_bind (wpAny_pure ?_)
  rw [if_neg (by simp)]
  refine wpAny_bind (wpAny_seqItems ho hd ?_)
  show wpAny _ _ (forIn items _ _ >>= _) _ _ s
  refine wpAny_bind ?_
  rw [← Array.forIn_toList]
  refine wpAny_forIn_list _ (fun rest r s' => r.1 = none ∧ s' = s ∧ ∀ v ∈ rest, ofAClassStatement 7 v = pure false) _ ?_ ?_ _ _ ⟨rfl, rfl, hp⟩
  · rintro v rest r s' ⟨hr, rfl, hall⟩
    rw [hall v List.mem_cons_self]
    refine wpAny_bind (wpAny_pure ?_)
    simp only [Bool.false_eq_true, if_false]
    exact wpAny_pure ⟨rfl, rfl, fun u hu' => hall u (List.mem_cons_of_mem _ hu')⟩
  · rintro ⟨r1, r2⟩ s' ⟨hr, rfl, _⟩
    simp only at hr
    subst hr
    exact wpAny_pure h
end
structure SRel (P : Program) (w : World) (K : Type) [DecidableEq K] extends KRel P w K where
  byval : ∀ {A : Around} {E : Value → Shared → Prop} {s : Shared} {k : K} {b : Addr} {Q : Bool → Shared → Prop}, hk.is s.heap k b → Q true s → wpAny (model P w) A (hashByValue 8 (.ref b)) Q E s
  stmt : ∀ {A : Around} {E : Value → Shared → Prop} {s : Shared} {k : K} {b : Addr} {Q : Bool → Shared → Prop}, hk.is s.heap k b → Q false s → wpAny (model P w) A (ofAClassStatement 8 (.ref b)) Q E s
theorem items_mem {P : Program} {w : World} {K : Type} [DecidableEq K] {knd : KeyKind P w K} {ks : List K} {vs : List Value} (h : ItemsAre knd ks vs) : ∀ v ∈ vs, ∃ k, knd.is k v = true := by
  induction h with
  | nil => intro v hv; cases hv
  | cons h1 _ ih =>
    intro v hv
    rcases List.mem_cons.mp hv with e | hv
    · exact ⟨_, by rw [e]; exact h1⟩
    · exact ih v hv
section
variable {P : Program} {w : World}
theorem items_ints {ks : List Int} : ∀ {vs : List Value}, Vals (ks.map V.int) vs → ItemsAre (intKind P w) ks vs := by
  induction ks with
  | nil => intro vs h; cases h; exact .nil
  | cons k ks ih =>
    intro vs h
    cases h with
    | cons r t =>
      obtain ⟨u, rfl⟩ := r
      exact .cons (intKind_is _ _ _ _) (ih t)
def srI (P : Program) (w : World) : SRel P w (List Int) where
  hk := tupleKind (intKind P w)
  at_ := fun H k b => H b = some (.tup (k.map V.int))
  by_ := fun {H h k b} ok e => by
    obtain ⟨_, its, r, o, h1, h2, n, h3⟩ := (show ObjOk P w H h b (.tup (k.map V.int)) from ok b _ e)
    exact ⟨o, its.toArray, n, h1, h2, h3, by simpa using items_ints r⟩
  keep := fun k e => k _ _ e
  room := fun {A} hu => by show A.units + 1 < cLine; omega
  room0 := fun {A} hu => by show A.units < cLine; omega
  byval := fun {A E s k b Q} hk h => by
    obtain ⟨o, items, n, ho, hc, hd, hi⟩ := hk
    refine hashBy_tuple ho hc hd (fun v hv => ?_) h
    obtain ⟨x, hx⟩ := items_mem hi v hv
    obtain ⟨t, rfl⟩ := Value.isInt_shape hx
    rfl
  stmt := fun {A E s k b Q} hk h => by
    obtain ⟨o, items, n, ho, hc, hd, hi⟩ := hk
    refine stmt_tuple ho hc hd (fun v hv => ?_) h
    obtain ⟨x, hx⟩ := items_mem hi v hv
    obtain ⟨t, rfl⟩ := Value.isInt_shape hx
    rfl
/-! ### looking for a key -/
variable {K : Type} [DecidableEq K] (R : SRel P w K)
/-- a set's entries: keys and where they stand -/
def Ens (es : List Ent) (ps : List (K × Addr)) : Prop := Paired (fun (e : Ent) (p : K × Addr) => e = (R.hk.hash p.1, Value.ref p.2)) es ps
variable {R}
theorem Paired.at {α β : Type} {F : α → β → Prop} : ∀ {l : List α} {m : List β} {i : Nat} {x : α}, Paired F l m → l[i]? = some x → ∃ y, m[i]? = some y ∧ F x y
  | _, _, _, _, .nil, e => by simp at e
  | _, _, 0, _, .cons r _, e => by simp at e; subst e; exact ⟨_, rfl, r⟩
  | _, _, i + 1, x, .cons _ t, e => by
    obtain ⟨u, h1, h2⟩ := Paired.at (i := i) (x := x) t (by simpa using e)
    exact ⟨u, by simpa using h1, h2⟩
/-- slots that hold another key -/
def Nq (t : SetTable) (ps : List (K × Addr)) (k : K) (j : Nat) : Prop := ∃ (i : Nat) (p : K × Addr), t.place[i]? = some j ∧ ps[i]? = some p ∧ p.1 ≠ k
variable {A : Around} {E : Value → Shared → Prop} {s : Shared}
theorem seen_not (x : Value) {k : K} {b : Addr} (hu : A.units + 2 < cLine) (hx : R.hk.is s.heap k b) : ∀ (l : List Value) {Q : Bool → Shared → Prop}, (∀ y ∈ l, ∃ k' b', y = .ref b' ∧ R.hk.is s.heap k' b') → Q false s → wpAny (model P w) A (searchCouldBeSeen (.ref b) l) Q E s := by
  intro l Q hl h
  unfold searchCouldBeSeen
  refine wpAny_bind ?_
  refine wpAny_forIn_list _ (fun rest r s' => r.1 = none ∧ s' = s ∧ ∀ y ∈ rest, ∃ k' b', y = .ref b' ∧ R.hk.is s.heap k' b') _ ?_ ?_ _ _ ⟨rfl, rfl, hl⟩
  · rintro v rest r s' ⟨hr, rfl, hall⟩
    obtain ⟨k', b', rfl, hk'⟩ := hall v List.mem_cons_self
    have hrest : ∀ y ∈ rest, ∃ k' b', y = .ref b' ∧ R.hk.is s'.heap k' b' := fun u hu' => hall u (List.mem_cons_of_mem _ hu')
    dsimp only
    by_cases e : (b == b') = true
    · rw [e]
      rw [if_pos (by simp)]
      exact wpAny_pure ⟨rfl, rfl, hrest⟩
    · rw [if_neg (by simp [e, carriedByValue])]
      refine wpAny_bind (R.hk.quiet hx ?_)
      rw [if_neg (by simp)]
      refine wpAny_bind (R.hk.quiet hk' ?_)
      rw [if_neg (by simp)]
      refine wpAny_bind (R.stmt hx ?_)
      rw [if_neg (by simp)]
      refine wpAny_bind (R.stmt hk' ?_)
      rw [if_neg (by simp)]
      exact wpAny_pure ⟨rfl, rfl, hrest⟩
  · rintro ⟨r1, r2⟩ s' ⟨hr, rfl, _⟩
    simp only at hr
    subst hr
    exact wpAny_pure h
end
end Be

namespace Be
open PySem L2
section
variable {P : Program} {w : World} {K : Type} [DecidableEq K] {R : SRel P w K} {A : Around} {E : Value → Shared → Prop} {s : Shared}
theorem ens_get {es : Array Ent} {ps : List (K × Addr)} (hp : Ens R es.toList ps) {i : Nat} (hi : i < es.size) : ∃ p, ps[i]? = some p ∧ es[i]? = some (R.hk.hash p.1, Value.ref p.2) := by
  have h1 : es.toList[i]? = some es[i] := by rw [Array.getElem?_toList, Array.getElem?_eq_getElem hi]
  obtain ⟨p, h2, h3⟩ := Paired.at hp h1
  exact ⟨p, h2, by rw [Array.getElem?_eq_getElem hi, h3]⟩
theorem HT.at {t : SetTable} {es : Array Ent} {led : Bool} (T : HT t es led) {i j : Nat} (h : t.place[i]? = some j) : i < es.size := by
  obtain ⟨h1, _⟩ := Array.getElem?_eq_some_iff.mp h
  rw [← T.size]; exact h1
theorem searchT {a : Addr} {o : Obj} {es : Array Ent} {ep : Nat} {t : SetTable} {led : Bool} {ps : List (K × Addr)} {k : K} {b : Addr} {Q : SetFound → Shared → Prop}
    (hu : A.units + 2 < cLine) (hx : R.hk.is s.heap k b) (ho : s.heap.get? a = some o) (hd : o.data = .set es ep t) (T : HT t es led) (hp : Ens R es.toList ps) (his : ∀ p ∈ ps, R.hk.is s.heap p.1 p.2)
    (hin : k ∈ ps.map (·.1) → Q (.there none) s) (hfree : ∀ j, ¬ Occ t j → Path (Nq t ps k) t.mask (st0 t.mask (R.hk.hash k)) j → Q (.free j false) s) :
    wpAny (model P w) A (setSearch a (.ref b) (R.hk.hash k) (adding := true)) Q E s := by
  have hf := T.fits
  have go : ∀ (f F : Nat) (st : Option Pb) (p : Pb), st.getD (t.probeStart (R.hk.hash k)) = p → f < F → p.dummy = none → f ≤ 10 * SetTable.turns t.mask → Meets (Occ t) t.mask f p →
      (∀ j, ¬ Occ t j → Path (Nq t ps k) t.mask p j → Path (Nq t ps k) t.mask (st0 t.mask (R.hk.hash k)) j) →
      wpAny (model P w) A (setSearchFrom a (.ref b) (R.hk.hash k) true F st) Q E s := by
    intro f
    induction f using Nat.strongRecOn with
    | _ f ih =>
      intro F st p hst hF hdm hcap hm hback
      obtain ⟨F, rfl⟩ : ∃ g, F = g + 1 := ⟨F - 1, by omega⟩
      unfold setSearchFrom
      refine wpAny_bind (wpAny_setState_of ho hd hf ?_)
      dsimp only
      rw [T.keeps_way, hst]
      simp only [Bool.false_eq_true, if_false]
      refine wpAny_bind (wpAny_pure ?_)
      have key : ∀ hA : Nat → Int, (∀ i : Nat, hA i = (es[i]?.map (·.1)).getD 0) → ∀ j, Oth t hA (R.hk.hash k) j → Nq t ps k j := fun hA hAe j ⟨i, h1, h2⟩ => by
        obtain ⟨q, e1, e2⟩ := ens_get hp (T.at h1)
        refine ⟨i, q, h1, e1, fun z => h2 ?_⟩
        rw [hAe, e2, z]; rfl
      have hprobe : ∀ (hA : Nat → Int), (∀ i : Nat, hA i = (es[i]?.map (·.1)).getD 0) → ∀ r, SetTable.probe t hA (R.hk.hash k) p = r →
          (∃ j, r = some (.empty j none) ∧ ¬ Occ t j ∧ Path (Nq t ps k) t.mask p j) ∨
          (∃ i q f', r = some (.candidate q.j i (adv t.mask q)) ∧ t.place[i]? = some q.j ∧ hA i = R.hk.hash k ∧ q.dummy = none ∧ f' < f ∧ Meets (Occ t) t.mask f' (adv t.mask q) ∧
            (∀ j : Nat, Nq t ps k q.j → Path (Nq t ps k) t.mask (adv t.mask q) j → Path (Nq t ps k) t.mask p j)) := fun hA hAe r hr => by
        rcases probe_spec T.dum T.rise (hA := hA) (h := R.hk.hash k) f (10 * SetTable.turns t.mask) p hcap hdm hm with ⟨j, a1, a2, a3⟩ | ⟨i, q, f', a1, a2, a3, a4, a5, a6, a7⟩
        · exact .inl ⟨j, by rw [← hr]; exact a1, a2, a3.mono (key hA hAe)⟩
        · exact .inr ⟨i, q, f', by rw [← hr]; exact a1, a2, a3, a4, a5, a6, fun j => a7 _ j (key hA hAe)⟩
      split
      · next met heq =>
        rcases hprobe _ (fun i => rfl) _ heq with ⟨j, a1, a2, a3⟩ | ⟨i, q, f', a1, a2, a3, a4, a5, a6, a7⟩
        · injection a1 with a1
          subst a1
          exact wpAny_pure (hfree j a2 (hback j a2 a3))
        · injection a1 with a1
          subst a1
          dsimp only
          obtain ⟨p', e1, e2⟩ := ens_get hp (T.at a2)
          have hb' := his p' (List.mem_of_getElem? e1)
          rw [e2]
          dsimp only
          have main : wpAny (model P w) A (do
              let equal ← holding [Value.ref p'.2] (eqBool (.ref p'.2) (.ref b))
              let (es', _, t') ← setState a
              if true && equal then pure (SetFound.there none) else do
              let some same := t'.sameMemory t.moves t.mask | unsupported "set.changed-during-lookup:is-the-new-block-at-the-old-address"
              let still ← match (if same then t'.slot q.j else .empty) with
                | .live i' => match es'[i']? with
                  | some (_, y') => do pure (if ← isSame y' (.ref p'.2) then some i' else none)
                  | none => pure none
                | _ => pure none
              match still with
              | none => do rule "set.search.anew"; setSearchFrom a (.ref b) (R.hk.hash k) true F none
              | some i' => if equal then pure (.there (some i')) else setSearchFrom a (.ref b) (R.hk.hash k) true F (some (adv t.mask q))) Q E s := by
            refine wpAny_bind (wpAny_holding (R.hk.eqBool (R.room0 hu) hb' hx ?_))
            refine wpAny_bind (wpAny_setState_of ho hd hf ?_)
            dsimp only
            by_cases hk : p'.1 = k
            · rw [decide_eq_true hk]
              exact wpAny_pure (hin (List.mem_map.mpr ⟨p', List.mem_of_getElem? e1, hk⟩))
            · rw [decide_eq_false hk]
              have hsm : t.sameMemory t.moves t.mask = some true := by unfold SetTable.sameMemory; rw [if_pos (by simp)]
              simp only [Bool.and_false, Bool.false_eq_true, if_false, hsm, if_true, slot_uniq T.dum T.rise a2, e2]
              refine wpAny_bind ?_
              unfold isSame
              dsimp only
              rw [if_pos (by simp)]
              refine wpAny_pure (wpAny_bind (wpAny_pure ?_))
              rw [if_pos rfl]
              dsimp only
              refine ih f' a5 F (some (adv t.mask q)) (adv t.mask q) rfl (by omega) (by rw [adv_dummy]; exact a4) (by omega) a6 fun j hj hP => hback j hj (a7 j ⟨i, p', a2, e1, hk⟩ hP)
          split
          · refine wpAny_bind (seen_not (R := R) (.ref b) hu hx _ ?_ ?_)
            · intro y hy
              obtain ⟨e, he, rfl⟩ := List.mem_map.mp hy
              have he' : e ∈ es.toList := by
                rw [Array.toList_filter] at he
                exact (List.mem_filter.mp he).1
              obtain ⟨n, hn⟩ := List.mem_iff_getElem?.mp he'
              obtain ⟨p2, q1, q2⟩ := Paired.at hp hn
              exact ⟨p2.1, p2.2, by rw [q2], his p2 (List.mem_of_getElem? q1)⟩
            · rw [if_neg Bool.false_ne_true]
              exact main
          · exact main
      · next heq =>
        exfalso
        generalize hr : SetTable.probe t _ (R.hk.hash k) p = r at heq
        rcases hprobe _ (fun i => rfl) r hr with ⟨j, a1, _⟩ | ⟨i, q, f', a1, _⟩
        · exact heq _ a1
        · exact heq _ a1
  refine go (10 * SetTable.turns t.mask) 100000 none _ rfl ?_ rfl (Nat.le_refl _) (T.meets _) fun j _ h => h
  have := T.mask_le
  unfold SetTable.turns
  omega
/-- a set that holds just these keys, each once -/
def SetG (R : SRel P w K) (h : Heap) (a : Addr) (ps : List (K × Addr)) (led : Bool) : Prop :=
  ∃ o es ep t qs, h.get? a = some o ∧ o.ExactSet ∧ o.data = .set es ep t ∧ HT t es led ∧ Ens R es.toList qs ∧ qs.Perm ps ∧ (ps.map (·.1)).Nodup
theorem ens_ins {es : Array Ent} {ps : List (K × Addr)} (hp : Ens R es.toList ps) (n : Nat) (k : K) (b : Addr) : Ens R (SetTable.insertAt es n (R.hk.hash k, Value.ref b)).toList (ps.take n ++ (k, b) :: ps.drop n) := by
  have tk : ∀ {l : List Ent} {m : List (K × Addr)} (n : Nat), Ens R l m → Ens R (l.take n) (m.take n) ∧ Ens R (l.drop n) (m.drop n) := by
    intro l m n h
    induction h generalizing n with
    | nil => cases n <;> exact ⟨.nil, .nil⟩
    | cons r t ih =>
      cases n with
      | zero => exact ⟨.nil, .cons r t⟩
      | succ n => exact ⟨.cons r (ih n).1, (ih n).2⟩
  rw [insG_toList]
  exact pairedApp (tk n hp).1 (.cons rfl (tk n hp).2)
theorem putSet_get {h : Heap} {a : Addr} {o : Obj} {es : Array Ent} {ep : Nat} {t : SetTable} (ho : h.get? a = some o) (hd : o.data = .set es ep t) (es' : Array Ent) (t' : SetTable) :
    (h.update a (Obj.putSet es' t')).get? a = some { o with data := .set es' (ep + 1) t' } := by
  have := Heap.get?_update_self (Obj.putSet es' t') ho (by rw [putSet_of es' t' hd]; rfl)
  rw [putSet_of es' t' hd] at this; exact this
theorem paired_perm {α β : Type} {F : α → β → Prop} {l l' : List α} (p : l'.Perm l) : ∀ {m : List β}, Paired F l m → ∃ m', Paired F l' m' ∧ m'.Perm m := by
  induction p with
  | nil => intro m h; exact ⟨m, h, List.Perm.refl _⟩
  | cons x _ ih =>
    intro m h
    cases h with
    | cons r t =>
      obtain ⟨m', h1, h2⟩ := ih t
      exact ⟨_ :: m', .cons r h1, h2.cons _⟩
  | swap x y l =>
    intro m h
    cases h with
    | cons r t =>
      cases t with
      | cons r' t' => exact ⟨_, .cons r' (.cons r t'), List.Perm.swap _ _ _⟩
  | trans _ _ ih1 ih2 =>
    intro m h
    obtain ⟨m1, h1, p1⟩ := ih2 h
    obtain ⟨m2, h2, p2⟩ := ih1 h1
    exact ⟨m2, h2, p2.trans p1⟩
theorem addT {a : Addr} {led : Bool} {ps : List (K × Addr)} {k : K} {b : Addr} {Q : Bool → Shared → Prop}
    (hu : A.units + 2 < cLine) (hS : SetG R s.heap a ps led) (his : ∀ p ∈ ps, R.hk.is s.heap p.1 p.2) (hx : R.hk.is s.heap k b) (hn : ps.length < 2000)
    (hin : k ∈ ps.map (·.1) → Q false s) (hnew : k ∉ ps.map (·.1) → ∀ h', Heap.SameBut a s.heap h' → SetG R h' a (ps ++ [(k, b)]) led → Q true { s with heap := h' }) :
    wpAny (model P w) A (setAddHashed a (.ref b) (R.hk.hash k)) Q E s := by
  obtain ⟨o, es, ep, t, qs, ho, hex, hd, T, hp, hpm, hnd⟩ := hS
  have hf := T.fits
  have hlen : es.size = ps.length := by rw [← Array.length_toList, Paired.length hp, hpm.length_eq]
  unfold setAddHashed setAddHashedIn
  refine wpAny_holding (wpAny_bind (wpAny_setState_of ho hd hf ?_))
  dsimp only
  rw [show byScan (.ref b) es = false from rfl]
  simp only [Bool.false_eq_true, if_false]
  have mem : ∀ x : K, x ∈ qs.map (·.1) ↔ x ∈ ps.map (·.1) := fun x => (hpm.map _).mem_iff
  refine wpAny_bind (searchT hu hx ho hd T hp (fun p h => his p (hpm.mem_iff.mp h)) (fun h => ?_) fun j hj hP => ?_)
  · exact wpAny_pure (hin ((mem k).mp h))
  · dsimp only
    have hpo : Path (Occ t) t.mask (st0 t.mask (R.hk.hash k)) j := hP.mono fun x ⟨i, p, h1, _⟩ => ⟨i, h1⟩
    have hnin : k ∉ ps.map (·.1) := fun z => by
      obtain ⟨p, hpq, e⟩ := List.mem_map.mp ((mem k).mpr z)
      obtain ⟨i, hi⟩ := List.mem_iff_getElem?.mp hpq
      have hlt : i < es.size := by
        have h1 := (List.getElem?_eq_some_iff.mp hi).1
        rw [← Paired.length hp, Array.length_toList] at h1; exact h1
      obtain ⟨p', e1, e2⟩ := ens_get hp hlt
      obtain rfl : p = p' := Option.some.inj (hi.symm.trans e1)
      have hlp : i < t.place.size := by rw [T.size]; exact hlt
      have hz : (t.place[i], (R.hk.hash p.1, Value.ref p.2)) ∈ t.place.toList.zip es.toList := by
        refine List.mem_of_getElem? (i := i) ?_
        rw [List.getElem?_zip_eq_some]
        exact ⟨by rw [Array.getElem?_toList, Array.getElem?_eq_getElem hlp], by rw [Array.getElem?_toList]; exact e2⟩
      have hP2 := T.path _ hz
      dsimp only at hP2
      rw [e] at hP2
      have hj2 := hP.meet hP2 hj (fun ⟨i2, p2, g1, g2, g3⟩ => by
        obtain ⟨l1, l2⟩ := Array.getElem?_eq_some_iff.mp g1
        have hii : i2 = i := by
          have a1 : t.place.getD i2 0 = t.place[i] := by rw [Array.getD_eq_getD_getElem?, g1]; rfl
          have a2 : t.place.getD i 0 = t.place[i] := by rw [Array.getD_eq_getD_getElem?, Array.getElem?_eq_getElem hlp]; rfl
          rcases Nat.lt_trichotomy i2 i with z | z | z
          · have := T.rise i2 i z hlp; omega
          · exact z
          · have := T.rise i i2 z l1; omega
        subst hii
        obtain rfl : p = p2 := Option.some.inj (hi.symm.trans g2)
        exact g3 e)
      exact hj ⟨i, by rw [hj2, Array.getElem?_eq_getElem hlp]⟩
    refine wpAny_bind (wpAny_setState_of ho hd hf ?_)
    dsimp only
    obtain ⟨u1, u2, u3, u4, u5, u6, u7, u8, u9, u10, u11⟩ := T.put (x := .ref b) hj (hpo.top (st0_top _ _)) hpo
    rw [if_pos u6]
    refine wpAny_bind (R.byval hx ?_)
    rw [if_pos rfl]
    have hens := ens_ins hp (t.put j).2 k b
    have hperm1 : (qs.take (t.put j).2 ++ (k, b) :: qs.drop (t.put j).2).Perm (ps ++ [(k, b)]) := by
      refine List.perm_middle.trans ?_
      rw [List.take_append_drop]
      exact (hpm.cons _).trans (List.perm_append_singleton _ _).symm
    have hnd1 : ((ps ++ [(k, b)]).map (·.1)).Nodup := by
      rw [List.map_append, List.nodup_append]
      exact ⟨hnd, by simp, fun x hx y hy => by
        have hy' : y = k := by simpa using hy
        rw [hy']; exact fun z => hnin (by rw [← z]; exact hx)⟩
    generalize hes1 : SetTable.insertAt es (t.put j).2 (R.hk.hash k, Value.ref b) = es1 at u1 u2 u11 hens ⊢
    generalize ht1 : (t.put j).1 = t1 at u1 u3 u4 u5 u6 u7 u8 u9 u10 u11 ⊢
    have hz1 : es1.size ≤ sizeLine := by rw [sizeLine_eq]; omega
    refine wpAny_bind (wpAny_storeSet_of ho hd ?_ hz1)
    have hg1 := putSet_get ho hd es1 t1
    have hb1 := Heap.SameBut.update s.heap a (Obj.putSet es1 t1)
    have hroom : t1.tooFull = decide (es1.size * 5 ≥ t1.mask * 3) := by
      unfold SetTable.tooFull SetTable.fill
      rw [u3, u1]; rfl
    have hfit1 : t1.fits es1.size = true := by
      unfold SetTable.fits SetTable.fill
      rw [u3, u1, u7]
      have := T.room
      simp
      omega
    cases htf : t1.tooFull with
    | false =>
      rw [if_neg (by simp)]
      rw [hroom] at htf
      have htf' := of_decide_eq_false htf
      have T1 : HT t1 es1 led := ⟨u1, u3, u4, u5, u6, by rw [u7]; exact T.pow, by rw [u7]; exact u10, by omega, by rw [u7]; exact u11⟩
      exact wpAny_pure (hnew hnin _ hb1 ⟨_, es1, ep + 1, t1, _, hg1, hex, rfl, T1, hens, hperm1, hnd1⟩)
    | true =>
      rw [if_pos (by simp)]
      have h2 : 2 ≤ es1.size := by
        rw [hroom] at htf
        have htf' := of_decide_eq_true htf
        obtain ⟨kk, h3, _, h4⟩ := T.pow
        have : 2 ^ 3 ≤ 2 ^ kk := Nat.pow_le_pow_right (by decide) h3
        omega
      obtain ⟨t2, order, r1, T2, r3, r4⟩ := relaid_ok (t := t1) (es := es1) u5 u6 (by omega) h2
      unfold setRelay
      rw [← u2]
      refine wpAny_bind (wpAny_bind (wpAny_setState_of hg1 rfl hfit1 ?_))
      dsimp only
      rw [if_neg (by rw [sizeLine_eq]; omega)]
      rw [r1]
      have hsz2 : (order.filterMap (es1[·]?)).size = es1.size := by
        rw [← Array.length_toList, r3.length_eq, Array.length_toList]
      show wpAny _ _ ((if ((order.filterMap (es1[·]?)).size != es1.size) = true then _ else _) >>= _) _ _ _
      rw [if_neg (by rw [hsz2]; simp)]
      refine wpAny_bind (wpAny_pure ?_)
      dsimp only
      refine wpAny_storeSet_of hg1 rfl ?_ (by rw [hsz2]; exact hz1)
      obtain ⟨qs2, h21, h22⟩ := paired_perm r3 hens
      exact wpAny_pure (hnew hnin _ (hb1.trans (Heap.SameBut.update _ a _)) ⟨_, _, ep + 1 + 1, t2, qs2, putSet_get hg1 rfl _ _, hex, rfl, T2, h21, h22.trans hperm1, hnd1⟩)
end
end Be

namespace Be
open PySem L2
theorem slot_sii : Slot "set_iterator" "__iter__" "set_iterator.__iter__" :=
  .of (owner := "set_iterator") (n := "__iter__") (by rw [typeLookup_type, builtinLookup_eq_fast]; kernel_rfl) (by decide +kernel) (by decide +kernel) (by decide +kernel)
    (by first | exact .inl (by decide +kernel) | exact .inr (by decide +kernel)) (by rw [isSubtype_type]; kernel_rfl)
theorem entry_sii : entryFor table "set_iterator.__iter__" = some Builtin.«dict_keyiterator.__iter__» :=
  entryFor_alias (id' := "dict_keyiterator.__iter__") (by kernel_rfl) rfl (by decide +kernel) (by kernel_rfl)
theorem args_sii (a : Value) : argsOk "set_iterator.__iter__" ⟨[a], []⟩ := by unfold argsOk; kernel_rfl
section
variable {prog : Program} {w : World} {A : Around} {E : Value → Shared → Prop} {s : Shared}
open PyProof.Rows in
end
end Be

namespace Be
open PySem L2
section
variable {prog : Program} {w : World} {A : Around} {E : Value → Shared → Prop} {s : Shared}
theorem ord_perm (w : World) (a : Addr) (ep : Nat) (es : Array (Int × Value)) : (ordS w a ep es).toList.Perm es.toList := by
  unfold ordS
  split
  · have h := pick_perm (w.params.setOrder a ep) es.size 0 es.toList #[] (by simp)
    unfold pickOrder
    simpa using h
  · exact List.Perm.refl _
end
end Be

namespace Be
open PySem L2
/-! ### walking over a set of any size -/
section
variable {prog : Program} {w : World} {A : Around} {E : Value → Shared → Prop} {s : Shared}
theorem iterG {a : Addr} {o : Obj} {es : Array (Int × Value)} {ep : Nat} {t : SetTable} {led : Bool} {Q : Value → Shared → Prop} (ho : s.heap.get? a = some o) (hex : o.ExactSet) (hd : o.data = .set es ep t) (T : HT t es led) (hn : es.size ≤ 3000)
    (h : Q (.ref s.heap.objs.size) { s with heap := s.heap.push { cls := .type "set_iterator", data := .fields #[.int 0 0, .int 0 0, .ref a, .int es.size 0, .int ep 0] } }) :
    wpAny (model prog w) A (pyIter (.ref a)) Q E s := by
  have hT : s.TypeIs (.ref a) "set" := ⟨o, ho, hex.1⟩
  have hf := T.fits
  refine wpAny_pyIter_slot hT F.slot_set_iter (wpAny_call_entry F.slot_set_iter hT entry_sit ?_ (F.args_set_iter_1 _))
  unfold Builtin.«frozenset.__iter__» Builtin.Frozenset.slot0 slotArgs
  simp only [List.isEmpty_nil, Bool.not_true, Bool.false_eq_true, ↓reduceIte, bind_assoc, List.length_nil, bne_self_eq_false]
  unfold Builtin.Frozenset.addrOf Builtin.Frozenset.sizeOf
  refine wpAny_bind (wpAny_pure ?_)
  try dsimp only
  refine wpAny_bind (wpAny_pure ?_)
  refine wpAny_bind (wpAny_bind (wpAny_setEntries_of ho hd hf (wpAny_pure ?_)))
  unfold setDrawn
  refine wpAny_bind (wpAny_bind (wpAny_setState_of ho hd hf ?_))
  dsimp only
  unfold setsByText
  refine wpAny_bind (wpAny_bind (wpAny_askSetting (wpAny_pure (wpAny_pure ?_))))
  show wpAny _ _ (if (!byT w && (!t.plain && decide (es.size > 1))) = true then _ else _) _ _ _
  rw [T.plain, show (!byT w && (!true && decide (es.size > 1))) = false by simp, if_neg Bool.false_ne_true]
  refine wpAny_bind (wpAny_pure ?_)
  refine wpAny_bind (wpAny_setEpoch_of ho hd hf ?_)
  refine wpAny_bind (wpAny_newObj_type ?_ (by size_fits))
  exact wpAny_pure ⟨_, rfl, "set_iterator", _, ⟨_, Heap.get?_push_size _ rfl, rfl⟩, slot_sin.lookup, h⟩
theorem nextG {a : Addr} {o : Obj} {es : Array (Int × Value)} {ep sl i : Nat} {t : SetTable} {Q : Option (Value × Nat) → Shared → Prop} (hoa : s.heap.get? a = some o) (hd : o.data = .set es ep t) (T : HT t es (!byT w)) (hn : es.size ≤ 3000) (hi : i ≤ es.size)
    (hsl : byT w = false → sl = nxt t i) (h1 : ∀ (h : i < (ordS w a ep es).size) m, (byT w = false → m = nxt t (i + 1)) → Q (some ((ordS w a ep es)[i].2, m)) s) (h2 : i = es.size → Q none s) :
    wpAny (model prog w) A (setNext a sl i ep) Q E s := by
  have hf := T.fits
  have hz := ord_size w a ep es
  have fin : ∀ r : Option (Int × Value), r = (ordS w a ep es)[i]? → ∀ m, (byT w = false → i < es.size → m = nxt t (i + 1)) → Q (r.map fun e => (e.2, m)) s := fun r hr m hm => by
    by_cases hlt : i < es.size
    · rw [hr, Array.getElem?_eq_getElem (by omega)]
      exact h1 (by omega) m fun hb => hm hb hlt
    · rw [hr, Array.getElem?_eq_none (by omega)]
      exact h2 (by omega)
  unfold setNext
  refine wpAny_bind (wpAny_setState_of hoa hd hf ?_)
  dsimp only
  unfold setsByText
  refine wpAny_bind (wpAny_bind (wpAny_askSetting (wpAny_pure ?_)))
  show wpAny _ _ (if byT w = true then _ else _) _ _ _
  cases hb : byT w with
  | true =>
    rw [if_pos rfl, if_neg (by simp)]
    unfold setWalk
    refine wpAny_bind (wpAny_bind (wpAny_setState_of hoa hd hf ?_))
    dsimp only
    unfold setsByText
    refine wpAny_bind (wpAny_bind (wpAny_askSetting (wpAny_pure ?_)))
    show wpAny _ _ (if byT w = true then _ else _) _ _ _
    rw [hb, if_pos rfl]
    refine wpAny_bind (wpAny_askSetting (wpAny_pure (wpAny_pure ?_)))
    refine fin _ ?_ sl (fun z => by rw [hb] at z; cases z)
    unfold ordS
    rw [hb, if_pos rfl]
    rfl
  | false =>
    rw [if_neg Bool.false_ne_true]
    show wpAny _ _ (if (!t.plain && decide (es.size > 1)) = true then _ else _) _ _ _
    rw [T.plain, show (!true && decide (es.size > 1)) = false by simp, if_neg Bool.false_ne_true]
    have hled : t.led = true := by rw [T.led, hb]; rfl
    refine wpAny_bind ?_
    show wpAny _ _ (if (!t.led && !es.isEmpty) = true then _ else _) _ _ _
    rw [hled, show (!true && !es.isEmpty) = false by simp, if_neg Bool.false_ne_true]
    refine wpAny_pure (wpAny_pure ?_)
    have hbl : SetTable.below t.place sl = i := by
      rw [hsl hb]
      cases i with
      | zero => exact below_zero T.rise
      | succ i => exact below_next T.rise (by rw [T.size]; omega)
    rw [hbl]
    by_cases hlt : i < es.size
    · have hp : i < t.place.size := by rw [T.size]; exact hlt
      rw [Array.getElem?_eq_getElem hlt, Array.getElem?_eq_getElem hp]
      have he : (ordS w a ep es)[i]? = some es[i] := by
        unfold ordS
        rw [hb, if_neg Bool.false_ne_true, Array.getElem?_eq_getElem hlt]
      have := fin (some es[i]) he.symm (t.place[i] + 1) fun _ _ => by
        show _ = t.place.getD i 0 + 1
        rw [Array.getD_eq_getD_getElem?, Array.getElem?_eq_getElem hp]; rfl
      exact this
    · rw [Array.getElem?_eq_none (by omega)]
      exact h2 (by omega)
theorem itemG {I a : Addr} {o : Obj} {es : Array (Int × Value)} {ep : Nat} {t : SetTable} {i : Nat} {Q : Option Value → Shared → Prop} (hne : I ≠ a) (hd : o.data = .set es ep t) (T : HT t es (!byT w)) (hn : es.size ≤ 3000)
    (hst : StS w I a o es ep t i s.heap) (hi : i < (ordS w a ep es).size) (hi2 : i < es.size)
    (h : ∀ h', StS w I a o es ep t (i + 1) h' → Heap.SameBut I s.heap h' → Q (some (ordS w a ep es)[i].2) { s with heap := h' }) : wpAny (model prog w) A (pyNext (.ref I)) Q E s := by
  obtain ⟨⟨oI, sl, ho, hc, hdI, hsl⟩, hoa⟩ := hst
  have hf := T.fits
  have hT : s.TypeIs (.ref I) "set_iterator" := ⟨oI, ho, hc⟩
  unfold pyNext
  refine wpAny_bind (wpAny_attempt (wpAny_callSpecial?_slot (name := Str.ofString "__next__") hT slot_sin (wpAny_call_entry slot_sin hT entry_sin ?_ (args_sin _))))
  unfold Builtin.«set_iterator.__next__» slotArgs
  simp only [List.isEmpty_nil, Bool.not_true, Bool.false_eq_true, ↓reduceIte, bind_assoc, List.length_nil, bne_self_eq_false]
  refine wpAny_bind (wpAny_pure ?_)
  try dsimp only
  refine wpAny_bind (wpAny_fieldsOf ho hdI ?_)
  try dsimp only
  refine wpAny_bind (wpAny_setEntries_of hoa hd hf ?_)
  try dsimp only
  rw [if_neg (by simp)]
  refine wpAny_bind ?_
  rw [Int.toNat_natCast, Int.toNat_natCast, Int.toNat_natCast]
  refine nextG hoa hd T hn (Nat.le_of_lt hi2) hsl (fun h1 m hm => ?_) fun z => by omega
  try dsimp only
  refine wpAny_bind (wpAny_setField ho hdI (by simp) ?_)
  have ho1 : (s.heap.update I (Obj.mapFields fun x => x.setIfInBounds 0 (rawInt ((m : Nat) : Int)))).get? I = some (Obj.mapFields (fun x => x.setIfInBounds 0 (rawInt ((m : Nat) : Int))) oI) := Heap.get?_update_self _ ho (Obj.isFreed_of_fields (Obj.data_mapFields hdI _))
  have hd1 := Obj.data_mapFields hdI fun x => x.setIfInBounds 0 (rawInt ((m : Nat) : Int))
  refine wpAny_bind (wpAny_setField ho1 hd1 (by simp) (wpAny_pure ⟨_, rfl, wpAny_pure (h _ ?_ ((Heap.SameBut.update ..).trans (Heap.SameBut.update ..)))⟩))
  refine ⟨⟨_, m, Heap.get?_update_self _ ho1 (Obj.isFreed_of_fields (Obj.data_mapFields hd1 _)), (Obj.cls_mapFields ..).trans ((Obj.cls_mapFields ..).trans hc), by rw [Obj.data_mapFields hd1]; simp [rawInt], hm⟩, ?_⟩
  exact (Heap.get?_update_other _ _ hne).trans ((Heap.get?_update_other _ _ hne).trans hoa)
theorem doneG {I a : Addr} {o : Obj} {es : Array (Int × Value)} {ep : Nat} {t : SetTable} {Q : Option Value → Shared → Prop} (hh : A.handled = none) (hne : I ≠ a) (hd : o.data = .set es ep t) (T : HT t es (!byT w)) (hn : es.size ≤ 3000)
    (hst : StS w I a o es ep t es.size s.heap) (h : ∀ h', Heap.ExtBut I s.heap h' → Q none { s with heap := h' }) : wpAny (model prog w) A (pyNext (.ref I)) Q E s := by
  obtain ⟨⟨oI, sl, ho, hc, hdI, hsl⟩, hoa⟩ := hst
  have hf := T.fits
  have hT : s.TypeIs (.ref I) "set_iterator" := ⟨oI, ho, hc⟩
  unfold pyNext
  refine wpAny_bind (wpAny_attempt (wpAny_callSpecial?_slot (name := Str.ofString "__next__") hT slot_sin (wpAny_call_entry slot_sin hT entry_sin ?_ (args_sin _))))
  unfold Builtin.«set_iterator.__next__» slotArgs
  simp only [List.isEmpty_nil, Bool.not_true, Bool.false_eq_true, ↓reduceIte, bind_assoc, List.length_nil, bne_self_eq_false]
  refine wpAny_bind (wpAny_pure ?_)
  try dsimp only
  refine wpAny_bind (wpAny_fieldsOf ho hdI ?_)
  try dsimp only
  refine wpAny_bind (wpAny_setEntries_of hoa hd hf ?_)
  try dsimp only
  rw [if_neg (by simp)]
  refine wpAny_bind ?_
  rw [Int.toNat_natCast, Int.toNat_natCast, Int.toNat_natCast]
  have hz := ord_size w a ep es
  refine nextG hoa hd T hn (Nat.le_refl _) hsl (fun h1 m hm => by omega) fun _ => ?_
  try dsimp only
  refine wpAny_bind (wpAny_setField ho hdI (by simp) ?_)
  refine wpAny_bind ?_
  simp only [newExc, newTuple]
  refine wpAny_bind (wpAny_newObj_type ?_ (by size_fits))
  refine wpAny_bind (m := firstArgMember _ _) (wpAny_of_eq (a := Value.none) (by first | rfl | (simp only [firstArgMember]; rfl)) ?_)
  refine wpAny_newObj_type ?_ (by size_fits)
  simp only [raiseNew]
  refine wpAny_bind (wpAny_handled ?_)
  rw [show A.in1.handled = none from hh]
  refine wpAny_bind (wpAny_pure (wpAny_throw ?_))
  refine wpAny_bind (wpAny_isInstance (T := "StopIteration") (b := true) ⟨_, Heap.get?_push_size _ rfl, rfl⟩ isSubtype_stop ?_)
  exact wpAny_pure (h _ (((Heap.SameBut.update ..).extBut.push _).push _))
theorem walkG (hh : A.handled = none) {I a : Addr} {o : Obj} {es : Array (Int × Value)} {ep : Nat} {t : SetTable} (hne : I ≠ a) (hd : o.data = .set es ep t) (T : HT t es (!byT w)) (hn : es.size ≤ 3000) :
    Walks prog w A I [I, a] [I] es.size (fun i v => ∃ e, (ordS w a ep es)[i]? = some e ∧ v = e.2) (fun i h => StS w I a o es ep t i h) where
  sub := fun b hb => by simp at hb; simp [hb]
  frame := fun i h h' st hk => by
    obtain ⟨⟨oI, sl, ho, rest⟩, hoa⟩ := st
    exact ⟨⟨oI, sl, hk I (by simp) _ ho, rest⟩, hk a (by simp) _ hoa⟩
  item := fun i s Q E hi st hQ => by
    have hz := ord_size w a ep es
    have hi' : i < (ordS w a ep es).size := by omega
    refine itemG hne hd T hn st hi' hi fun h' st' sb => ?_
    exact hQ _ h' s.toks ⟨_, Array.getElem?_eq_getElem hi', rfl⟩ st' fun b o hb e => sb.extBut b o (fun h => hb (by simp [h])) e
  done := fun s Q E st hQ => doneG hh hne hd T hn st fun h' he => hQ h' s.toks fun b o hb e => he b o (fun h => hb (by simp [h])) e
  self := fun i s Q E st hQ => by
    obtain ⟨⟨oI, sl, ho, hc, rest⟩, hoa⟩ := st
    have hT : s.TypeIs (.ref I) "set_iterator" := ⟨oI, ho, hc⟩
    refine wpAny_pyIter_slot hT slot_sii (wpAny_call_entry slot_sii hT entry_sii ?_ (args_sii _))
    show wpAny _ _ (ret (.ref I)) _ _ s
    exact wpAny_pure ⟨_, rfl, "set_iterator", _, hT, slot_sin.lookup, hQ⟩
theorem collectG (hh : A.handled = none) {a : Addr} {o : Obj} {es : Array (Int × Value)} {ep : Nat} {t : SetTable} {Q : List Value → Shared → Prop} (ho : s.heap.get? a = some o) (hex : o.ExactSet) (hd : o.data = .set es ep t) (T : HT t es (!byT w)) (hn3 : es.size ≤ 3000)
    (h : ∀ (h' : Heap) (tk : Nat), s.heap.objs.size < h'.objs.size → (∀ b o, s.heap.get? b = some o → h'.get? b = some o) → Q ((ordS w a ep es).toList.map (·.2)) { s with heap := h', toks := tk }) :
    wpAny (model prog w) A (collect (.ref a)) Q E s := by
  have hT : s.TypeIs (.ref a) "set" := ⟨o, ho, hex.1⟩
  have haS : a < s.heap.objs.size := Heap.lt_size ho
  unfold collect
  refine wpAny_bind (wpAny_runValue (codeAny_builtin F.entry_proto_collect ?_))
  rw [Around.under_plainId F.plain_proto_collect _]
  show wpAny _ A.in1 (newList [] >>= fun l => again (.builtin "list.__iadd__" ⟨[l, .ref a], []⟩)) _ _ s
  refine wpAny_bind (wpAny_newObj_type ?_)
  refine wpAny_pure ⟨plainId_quiet F.plain_list_iadd _, codeAny_builtin F.entry_list_iadd ?_⟩
  rw [Around.under_plainId F.plain_list_iadd _]
  show wpAny _ A.in1 (Builtin.List.listExtendWith (.ref s.heap.objs.size) (.ref a) (.ref s.heap.objs.size)) _ _ _
  unfold Builtin.List.listExtendWith
  have ho1 : (s.heap.push { cls := .type "list", data := .seq ([] : List Value).toArray }).get? a = some o := Heap.get?_push_of_some _ ho
  have hT1 : Shared.TypeIs { s with heap := s.heap.push { cls := .type "list", data := .seq ([] : List Value).toArray } } (.ref a) "set" := ⟨o, ho1, hex.1⟩
  have hne : s.heap.objs.size ≠ a := Nat.ne_of_gt haS
  have h1 : Builtin.List.listSameRef (.ref s.heap.objs.size) (.ref a) = false := by simp [Builtin.List.listSameRef, hne]
  refine wpAny_bind (wpAny_typeOf hT1 ?_)
  rw [if_neg (by rw [h1]; decide)]
  refine wpAny_bind (iterG ho1 hex hd T hn3 ?_)
  refine wpAny_bind (wpAny_holding ?_)
  unfold Builtin.List.listLengthHint
  have zL : (s.heap.push { cls := .type "list", data := .seq ([] : List Value).toArray }).objs.size = s.heap.objs.size + 1 := Heap.size_push ..
  generalize hX : ({ cls := .type "set_iterator", data := .fields #[.int 0 0, .int 0 0, .ref a, .int es.size 0, .int ep 0] } : Obj) = oI
  have ho2 : ((s.heap.push { cls := .type "list", data := .seq ([] : List Value).toArray }).push oI).get? a = some o := Heap.get?_push_of_some _ ho1
  have hT2 : Shared.TypeIs { s with heap := (s.heap.push { cls := .type "list", data := .seq ([] : List Value).toArray }).push oI } (.ref a) "set" := ⟨o, ho2, hex.1⟩
  refine wpAny_bind (wpAny_specialOf hT2 F.slot_set_len.lookup ?_)
  (generalize hid : ("set.__len__" : String) = id0; wp_delta; rw [show splitId id0 = some ("set", "__len__") from by subst hid; decide +kernel]; subst hid)
  refine wpAny_bind (wpAny_isInstance (b := true) hT2 sub_set_self ?_)
  show wpAny _ A.in1 (typeOf (.ref a) >>= _) _ _ _
  refine wpAny_bind (wpAny_typeOf hT2 ?_)
  refine wpAny_pure ?_
  show wpAny _ A.in1 (rule "list.extend.makes-room" >>= fun _ => Builtin.List.listTouch (.ref s.heap.objs.size) >>= fun _ =>
    again (.builtin "list.extend.loop" ⟨[.ref s.heap.objs.size, .ref _, .ref s.heap.objs.size], []⟩)) _ _ _
  refine wpAny_bind (wpAny_rule ?_)
  have hS1 : ((s.heap.push { cls := .type "list", data := .seq ([] : List Value).toArray }).push oI).get? s.heap.objs.size = some { cls := .type "list", data := .seq ([] : List Value).toArray } := Heap.get?_push_of_some _ (Heap.get?_push_size _ rfl)
  refine wpAny_bind ?_
  show wpAny _ A.in1 (updateSeq s.heap.objs.size (·.push .none) >>= fun _ => updateSeq s.heap.objs.size (·.pop)) _ _ _
  refine wpAny_bind (wpAny_updateSeq hS1 rfl ?_)
  have hS2 := Heap.get?_update_self (Obj.mapSeq (·.push Value.none)) hS1 rfl
  refine wpAny_updateSeq hS2 rfl ?_
  have hS3 := Heap.get?_update_self (Obj.mapSeq (·.pop)) hS2 rfl
  have oth : ∀ b o, b ≠ s.heap.objs.size → ((s.heap.push { cls := .type "list", data := .seq ([] : List Value).toArray }).push oI).get? b = some o →
      ((((s.heap.push { cls := .type "list", data := .seq ([] : List Value).toArray }).push oI).update s.heap.objs.size (Obj.mapSeq (·.push Value.none))).update s.heap.objs.size (Obj.mapSeq (·.pop))).get? b = some o :=
    fun b o hb e => (Heap.get?_update_other _ _ (Ne.symm hb)).trans ((Heap.get?_update_other _ _ (Ne.symm hb)).trans e)
  have eI : ((s.heap.push { cls := .type "list", data := .seq ([] : List Value).toArray }).push oI).get? (s.heap.push { cls := .type "list", data := .seq ([] : List Value).toArray }).objs.size = some oI := Heap.get?_push_size _ (by rw [← hX]; rfl)
  have nIS : (s.heap.push { cls := .type "list", data := .seq ([] : List Value).toArray }).objs.size ≠ s.heap.objs.size := by rw [zL]; exact Nat.ne_of_gt (Nat.lt_succ_self _)
  have nIa : (s.heap.push { cls := .type "list", data := .seq ([] : List Value).toArray }).objs.size ≠ a := by rw [zL]; exact Nat.ne_of_gt (Nat.lt_succ_of_lt haS)
  have eI3 := oth _ _ nIS eI
  have ea3 := oth _ _ (Ne.symm hne) ho2
  have W := walkG (prog := prog) (A := A.in1.in1) (w := w) (by simp [hh]) nIa hd T hn3
  have hSf : s.heap.objs.size ∉ [(s.heap.push { cls := .type "list", data := .seq ([] : List Value).toArray }).objs.size, a] := by
    simp only [List.mem_cons, List.not_mem_nil, or_false, not_or]
    exact ⟨Ne.symm nIS, hne⟩
  refine wpAny_pure ⟨plainId_quiet F.plain_extend_loop _, codeAny_extend_loopS (Walks.of_in1 W).toS (by show es.size ≤ sizeLine; exact sz_le (by omega)) s.heap.objs.size hSf _ es.size 0 _ _ _ rfl (Nat.zero_le _) ⟨⟨oI, 0, eI3, by rw [← hX], by rw [← hX]; rfl, fun _ => rfl⟩, ea3⟩ hS3 (ItemsOf.nil _) fun s' acc' c' hm hS' hacc => ?_⟩
  show wpAny _ A (load s.heap.objs.size >>= _) _ _ s'
  refine wpAny_bind (wpAny_load hS' ?_)
  refine wpAny_pure ?_
  have hp := ord_perm w a ep es
  have hz := ord_size w a ep es
  have ev : acc'.toList = (ordS w a ep es).toList.map (·.2) := by
    obtain ⟨q1, q2⟩ := hacc
    apply List.ext_getElem?
    intro j
    rw [Array.getElem?_toList, List.getElem?_map, Array.getElem?_toList]
    by_cases hj : j < acc'.size
    · have e1 : acc'[j]? = some acc'[j] := Array.getElem?_eq_getElem hj
      obtain ⟨e, e2, e3⟩ := q2 j _ e1
      rw [e1, e2, e3]; rfl
    · rw [Array.getElem?_eq_none (by omega), Array.getElem?_eq_none (by omega)]; rfl
  obtain ⟨h', g', d', tk', os'⟩ := s'
  have eg : g' = s.gens := hm.gens
  have ed : d' = s.drawn := hm.drawn
  have eo : os' = s.os := hm.os
  subst eg; subst ed; subst eo
  rw [ev]
  refine h h' tk' (Heap.lt_size hS') fun b o hb => ?_
  have hlt : b < s.heap.objs.size := Heap.lt_size hb
  refine hm.heap b o ?_ (oth b o (Nat.ne_of_lt hlt) (Heap.get?_push_of_some _ (Heap.get?_push_of_some _ hb)))
  simp only [List.mem_cons, List.not_mem_nil, or_false, not_or]
  exact ⟨Nat.ne_of_lt hlt, by rw [zL]; exact Nat.ne_of_lt (Nat.lt_succ_of_lt hlt)⟩
end
end Be

namespace Be
open PySem L2 PyProof.Rows PySem.W
/-! ### sorting tuples of two ints -/
/-- every end is of P, every question is of things below n -/
def Good {α : Type} (n : Nat) (P : α → Prop) : KasT α → Prop
  | .ret a => P a
  | .ask i j k => i < n ∧ j < n ∧ ∀ b, Good n P (k b)
theorem Good.mono {α : Type} {n : Nat} {P P' : α → Prop} (h : ∀ a, P a → P' a) : ∀ {t : KasT α}, Good n P t → Good n P' t
  | .ret a, q => h a q
  | .ask i j k, ⟨a, b, q⟩ => ⟨a, b, fun c => Good.mono h (q c)⟩
theorem Good.bind {α β : Type} {n : Nat} {P : β → Prop} {f : α → KasT β} : ∀ {t : KasT α}, Good n (fun a => Good n P (f a)) t → Good n P (t.bind f)
  | .ret a, q => q
  | .ask i j k, ⟨a, b, q⟩ => ⟨a, b, fun c => Good.bind (q c)⟩
theorem Good.wp {α : Type} {n : Nat} {P : α → Prop} {cmp : Nat → Nat → (Bool → Shared → Prop) → Shared → Prop} {s : Shared} (hc : ∀ i j, i < n → j < n → ∃ c : Bool, ∀ C : Bool → Shared → Prop, C c s → cmp i j C s) :
    ∀ {t : KasT α}, Good n P t → t.kasWp cmp (fun a s' => P a ∧ s' = s) s
  | .ret a, q => ⟨q, rfl⟩
  | .ask i j k, ⟨a, b, q⟩ => by
    obtain ⟨c, h⟩ := hc i j a b
    exact h _ (Good.wp hc (q c))
def PermR (n : Nat) (p : Array Nat) : Prop := p.toList.Perm (List.range n)
theorem PermR.lt {n : Nat} {p : Array Nat} (h : PermR n p) (hn : 0 < n) (x : Nat) : p.getD x 0 < n := by
  rw [Array.getD_eq_getD_getElem?]
  cases e : p[x]? with
  | none => exact hn
  | some v =>
    have : v ∈ p.toList := List.mem_of_getElem? (by rw [Array.getElem?_toList]; exact e)
    exact List.mem_range.mp (h.mem_iff.mp this)
theorem PermR.of {n : Nat} {p q : Array Nat} (h : PermR n p) (e : q.Perm p) : PermR n q := (Array.perm_iff_toList_perm.mp e).trans h
theorem PermR.rev {n : Nat} {p : Array Nat} (h : PermR n p) (i j : Nat) : PermR n (kas_rev p i j) := h.of (mirror_perm _ _ _ _)
theorem PermR.bub {n : Nat} {p : Array Nat} (h : PermR n p) (i j : Nat) : PermR n (bubble p i j) := h.of (bubble_perm _ _ _)
section
variable {n : Nat} (hn : 0 < n)
include hn
theorem good_asc {p : Array Nat} (h : PermR n p) : ∀ f m, Good n (fun _ => True) (kas_asc p f m)
  | 0, m => trivial
  | f + 1, m => ⟨h.lt hn _, h.lt hn _, fun c => by
    dsimp only
    by_cases e : c = true
    · rw [if_pos e]; trivial
    · rw [if_neg e]; exact good_asc h f (m + 1)⟩
theorem good_desc : ∀ f (p : Array Nat) m q, PermR n p → Good n (fun r => PermR n r.1) (kas_desc f p m q)
  | 0, p, m, q, h => h
  | f + 1, p, m, q, h => ⟨h.lt hn _, h.lt hn _, fun c => by
    dsimp only
    by_cases e : c = true
    · rw [if_pos e]
      by_cases e2 : q > 0
      · rw [if_pos e2]; exact good_desc f _ _ _ (h.rev _ _)
      · rw [if_neg e2]; exact good_desc f _ _ _ h
    · rw [if_neg e]
      refine ⟨h.lt hn _, h.lt hn _, fun d => ?_⟩
      dsimp only
      by_cases e2 : d = true
      · rw [if_pos e2]; exact h
      · rw [if_neg e2]; exact good_desc f _ _ _ h⟩
theorem good_tail3 {p : Array Nat} (h : PermR n p) (m r : Nat) : Good n (fun r => PermR n r.2) (kas_tail3 m r p) :=
  Good.bind ((good_asc hn (h.rev 0 m) _ _).mono fun _ _ => h.rev 0 m)
theorem good_descPart {p : Array Nat} (h : PermR n p) (m r : Nat) : Good n (fun r => PermR n r.2) (kas_descPart m r p) := by
  refine Good.bind ((good_desc hn _ p _ _ h).mono fun q hq => ?_)
  split
  · exact good_tail3 hn (PermR.rev hq _ _) _ _
  · exact good_tail3 hn hq _ _
theorem good_count {p : Array Nat} (h : PermR n p) (r : Nat) : Good n (fun r => PermR n r.2) (kas_count r p) := by
  refine Good.bind ((good_asc hn h _ _).mono fun m _ => ?_)
  by_cases e : (m == r) = true
  · rw [if_pos e]; exact h
  · rw [if_neg e]
    by_cases e2 : m > 1
    · rw [if_pos e2]
      refine ⟨h.lt hn _, h.lt hn _, fun c => ?_⟩
      dsimp only
      by_cases e3 : c = true
      · rw [if_pos e3]; exact h
      · rw [if_neg e3]; exact good_descPart hn (h.rev _ _) _ _
    · rw [if_neg e2]; exact good_descPart hn h _ _
theorem good_place {p : Array Nat} (h : PermR n p) (k : Nat) : ∀ f l r, Good n (fun _ => True) (kas_place p k f l r)
  | 0, l, r => trivial
  | f + 1, l, r => by
    unfold kas_place
    by_cases e : l ≥ r
    · rw [if_pos e]; trivial
    · rw [if_neg e]
      refine ⟨h.lt hn _, h.lt hn _, fun c => ?_⟩
      dsimp only
      by_cases e3 : c = true
      · rw [if_pos e3]; exact good_place h k f _ _
      · rw [if_neg e3]; exact good_place h k f _ _
theorem good_bin : ∀ f (p : Array Nat) k, PermR n p → Good n (PermR n) (kas_bin f p k)
  | 0, p, k, h => h
  | f + 1, p, k, h => Good.bind ((good_place hn h k _ _ _).mono fun l _ => good_bin f _ _ (h.bub _ _))
theorem good_sort : Good n (PermR n) (kas_sort n) := by
  have h0 : PermR n (List.range n).toArray := List.Perm.refl _
  refine Good.bind ((good_count hn h0 n).mono fun r hr => ?_)
  split
  · exact good_bin hn _ _ _ hr
  · exact hr
end
section
variable {prog : Program} {w : World} {A : Around} {E : Value → Shared → Prop} {s : Shared}
/-- a tuple of two ints -/
def IsII (h : Heap) (v : Value) : Prop := ∃ b o n x y t u, v = .ref b ∧ h.get? b = some o ∧ o.cls = .type "tuple" ∧ o.data = .seq #[.int x t, .int y u] n
theorem IsII.keep {h h' : Heap} {v : Value} (q : IsII h v) (k : ∀ b o, (∃ xs n, o.data = .seq xs n ∧ o.cls = .type "tuple") → h.get? b = some o → h'.get? b = some o) : IsII h' v := by
  obtain ⟨b, o, n, x, y, t, u, e, ho, hc, hd⟩ := q
  exact ⟨b, o, n, x, y, t, u, e, k b o ⟨_, _, hd, hc⟩ ho, hc, hd⟩
theorem lt_II {v v' : Value} (h : IsII s.heap v) (h' : IsII s.heap v') : ∃ c : Bool, ∀ C : Bool → Shared → Prop, C c s → wpAny (model prog w) A (keyLt' (tuples' true) v v') C E s := by
  obtain ⟨b, o, n, x, y, t, u, rfl, ho, hc, hd⟩ := h
  obtain ⟨b', o', n', x', y', t', u', rfl, ho', hc', hd'⟩ := h'
  by_cases e : x = x'
  · by_cases e2 : y = y'
    · refine ⟨false, fun C hC => kat_lt ho hd ho' hd' (kat_cons (wpAny_eqBool_int ?_))⟩
      rw [show (x == x') = true by simpa using e]
      refine kat_yes (kat_cons (wpAny_eqBool_int ?_))
      rw [show (y == y') = true by simpa using e2]
      exact kat_yes (kat_nil hC)
    · refine ⟨decide (y < y'), fun C hC => kat_lt ho hd ho' hd' (kat_cons (wpAny_eqBool_int ?_))⟩
      rw [show (x == x') = true by simpa using e]
      refine kat_yes (kat_cons (wpAny_eqBool_int ?_))
      rw [show (y == y') = false by simpa using e2]
      exact kat_no (kat_one _ _ (PySem.P.lt_int hC))
  · refine ⟨decide (x < x'), fun C hC => kat_lt ho hd ho' hd' (kat_cons (wpAny_eqBool_int ?_))⟩
    rw [show (x == x') = false by simpa using e]
    exact kat_no (oneLt_int hC)
theorem snd_items (vs : List Value) {st : SortSt} {p : Array Nat} (har : arrOf st = p.map (kas_item (vs.toArray.zip vs.toArray))) (hp : PermR vs.length p) : ((arrOf st).map (·.2)).toList.Perm vs := by
  rw [kat_snds rfl har]
  show (p.toList.map fun i => vs.getD i Value.none).Perm vs
  refine (hp.map _).trans ?_
  have : (List.range vs.length).map (fun i => vs.getD i Value.none) = vs := by
    apply List.ext_getElem?
    intro i
    by_cases h : i < vs.length
    · rw [List.getElem?_map, List.getElem?_range h, List.getElem?_eq_getElem h, Option.map_some, List.getD_eq_getElem?_getD, List.getElem?_eq_getElem h]; rfl
    · rw [List.getElem?_eq_none (by simp; omega), List.getElem?_eq_none (by omega)]
  rw [this]
theorem list_sort_II {a : Addr} {vs : List Value} {n : Nat} {P : PySem.Fin → Shared → Prop} (ho : s.heap.get? a = some (seqObj "list" vs.toArray n)) (ht : ∀ v ∈ vs, IsII s.heap v) (h64 : vs.length < 64)
    (h : ∀ out : Array Value, out.toList.Perm vs → P (.done (.ret .none)) { s with heap := sortedHeap s.heap a vs out }) :
    wpAny (model prog w) A (Builtin.«list.sort» ⟨[.ref a], []⟩) P E s := by
  rw [list_sort_plain]
  have ha : a < s.heap.objs.size := Heap.lt_size ho
  refine wpAny_bind (listItems_at ho rfl ?_)
  refine wpAny_bind (listUpdate_at ho rfl ?_)
  obtain ⟨e1, ho1⟩ : ∃ e1, (s.heap.update a (Obj.mapSeq fun _ => #[])).get? a = some (seqObj "list" #[] e1) := ⟨_, get?_update_seq ho (fun _ => #[])⟩
  refine wpAny_bind (seqEpoch_at ho1 rfl ?_)
  refine wpAny_bind (wpAny_newTuple ?_)
  refine wpAny_bind (wpAny_newList ?_)
  refine wpAny_holding ?_
  have ho6 : (((s.heap.update a (Obj.mapSeq fun _ => #[])).push (seqObj "tuple" vs.toArray 0)).push (seqObj "list" #[] 0)).get? a = some (seqObj "list" #[] e1) := by
    rw [Heap.get?_push_ne _ _ _ (by rw [size_push', Heap.size_update]; exact Nat.ne_of_lt (Nat.lt_succ_of_lt ha)), Heap.get?_push_ne _ _ _ (by rw [Heap.size_update]; exact Nat.ne_of_lt ha)]
    exact ho1
  have ht6 : ∀ v ∈ vs, IsII (((s.heap.update a (Obj.mapSeq fun _ => #[])).push (seqObj "tuple" vs.toArray 0)).push (seqObj "list" #[] 0)) v := fun v hv => (ht v hv).keep fun b o ⟨xs, m, hd, hc⟩ hb => by
    have hne : b ≠ a := by
      rintro rfl
      rw [ho] at hb
      rw [← Option.some.inj hb] at hc
      have hc' : Value.type "list" = Value.type "tuple" := hc
      injection hc' with hc'
      exact absurd hc' (by decide)
    refine Heap.get?_push_of_some _ (Heap.get?_push_of_some _ ?_)
    exact (Heap.get?_update_ne _ _ _ _ hne).trans hb
  show wpAny (model prog w) A _ P E { s with heap := ((s.heap.update a (Obj.mapSeq fun _ => #[])).push (seqObj "tuple" vs.toArray 0)).push (seqObj "list" #[] 0) }
  dsimp only
  have hsz : vs.toArray.size = vs.length := by simp
  by_cases h2 : vs.toArray.size < 2
  · rw [if_pos h2, if_pos h2]
    refine wpAny_bind (wpAny_pure ?_)
    rw [StateT.run_pure]
    refine wpAny_bind (wpAny_pure ?_)
    dsimp only
    have ev : (vs.toArray.zip vs.toArray).map (·.2) = vs.toArray := by
      apply Array.ext_getElem?
      intro i
      by_cases hi : i < vs.length
      · simp [hi]
      · simp [hi]
    refine wpAny_bind (seqEpoch_at ho6 rfl ?_)
    refine wpAny_bind (listUpdate_at ho6 rfl ?_ (hsz2 := by rw [Array.size_map]; show (pairsOf vs).size ≤ _; rw [pairsOf_size, sizeLine_eq]; omega))
    simp only [bne_self_eq_false, Bool.false_eq_true, if_false]
    have hperm : ((vs.toArray.zip vs.toArray).map fun q => q.2).toList.Perm vs := by rw [ev]
    exact wpAny_pure (h _ hperm)
  · rw [if_neg h2, if_neg h2]
    have hpos : 2 ≤ vs.length := by omega
    have hkt : ∀ l : List Value, (∀ v ∈ l, IsII (((s.heap.update a (Obj.mapSeq fun _ => #[])).push (seqObj "tuple" vs.toArray 0)).push (seqObj "list" #[] 0)) v) →
        ∃ fs, KatTups (((s.heap.update a (Obj.mapSeq fun _ => #[])).push (seqObj "tuple" vs.toArray 0)).push (seqObj "list" #[] 0)) l fs ∧ fs.length = l.length ∧ ∀ f ∈ fs, ∃ x t, f = Value.int x t := fun l => by
      induction l with
      | nil => exact fun _ => ⟨[], KatTups.nil, rfl, fun f hf => by cases hf⟩
      | cons v l ih =>
        intro hl
        obtain ⟨fs, h1, h2, h3⟩ := ih fun v hv => hl v (List.mem_cons_of_mem _ hv)
        obtain ⟨b, o, m, x, y, t, u, rfl, hb, hc, hd⟩ := hl v List.mem_cons_self
        refine ⟨.int x t :: fs, KatTups.cons hb hc hd rfl h1, by rw [List.length_cons, List.length_cons, h2], fun f hf => ?_⟩
        rcases List.mem_cons.mp hf with e | hf
        · exact ⟨x, t, e⟩
        · exact h3 f hf
    obtain ⟨fs, hk1, hk2, hk3⟩ := hkt vs ht6
    refine wpAny_bind (kat_kind (T := Value.type "int") hk1 (by omega) (fun v hv => ?_) (by rfl) ?_)
    · obtain ⟨x, t, rfl⟩ := hk3 v hv
      exact Looks.of_pure rfl
    rw [show (Value.type "int" != Value.type "tuple") = true by rfl]
    refine wpAny_bind (wpAny_mono (kat_run (ks := vs) (vs := vs) (Q := fun st' s' => ((arrOf st').map (·.2)).toList.Perm vs ∧ failedOf st' = none ∧ s' = { s with heap := ((s.heap.update a (Obj.mapSeq fun _ => #[])).push (seqObj "tuple" vs.toArray 0)).push (seqObj "list" #[] 0) }) rfl hpos h64
      (fun p st' s' a1 a2 a3 a4 => ⟨snd_items vs a2 a4.1, a3, a4.2⟩)
      (Good.wp (fun i j hi hj => ?_) (good_sort (by omega)))) ?_ fun _ _ e => e)
    · have g : ∀ i, i < vs.length → vs.getD i Value.none ∈ vs := fun i hi => by
        rw [List.getD_eq_getElem?_getD, List.getElem?_eq_getElem hi]
        exact List.getElem_mem hi
      exact lt_II (ht6 _ (g i hi)) (ht6 _ (g j hj))
    rintro ⟨⟨⟩, st'⟩ s' ⟨hp, hf, rfl⟩
    dsimp only at hp hf ⊢
    have hlen : ((arrOf st').map (·.2)).size = vs.length := by rw [← Array.length_toList, hp.length_eq]
    refine wpAny_bind (seqEpoch_at ho6 rfl ?_)
    refine wpAny_bind (listUpdate_at ho6 rfl ?_ (hsz2 := by rw [hlen, sizeLine_eq]; omega))
    rw [hf]
    simp only [bne_self_eq_false, Bool.false_eq_true, if_false]
    exact wpAny_pure (h _ hp)
theorem ens_vals {K : Type} [DecidableEq K] {R : SRel prog w K} {es : List Ent} {qs : List (K × Addr)} (h : Ens R es qs) : es.map (·.2) = qs.map fun p => Value.ref p.2 := by
  induction h with
  | nil => rfl
  | cons r _ ih => rw [List.map_cons, List.map_cons, ih, r]
/-- sorted(s), s a set of tuples of two ints -/
theorem sortedG {a : Addr} {ps : List (List Int × Addr)} {Q : Value → Shared → Prop} (hh : A.handled = none) (hS : SetG (srI prog w) s.heap a ps (!byT w)) (his : ∀ p ∈ ps, IsTupleKey (intKind prog w) s.heap p.1 p.2) (h2 : ∀ p ∈ ps, p.1.length = 2) (hn : ps.length < 64)
    (h : ∀ (out : List Value) (qs : List (List Int × Addr)) (h1 : Heap) (tk : Nat) (vs : List Value), qs.Perm ps → out = qs.map (fun p => Value.ref p.2) → s.heap.objs.size < h1.objs.size → (∀ b o, s.heap.get? b = some o → h1.get? b = some o) →
      Q (.ref h1.objs.size) { s with heap := sortedHeap (h1.push (seqObj "list" vs.toArray 0)) h1.objs.size vs out.toArray, toks := tk }) :
    wpAny (model prog w) A (call (.builtin "sorted") [.ref a]) Q E s := by
  obtain ⟨o, es, ep, t, qs, ho, hex, hd, T, hp, hpm, hnd⟩ := hS
  have hlen : es.size = ps.length := by rw [← Array.length_toList, Paired.length hp, hpm.length_eq]
  refine Calls.call_function_entry kind_sorted plain_sorted entry_sorted (args_sorted1 _) ?_
  unfold Builtin.«sorted»
  refine wpAny_bind (m := checkCount "sorted" 1 1 _) (wpAny_pure ?_)
  refine wpAny_bind (collectG (by simp [hh]) ho hex hd T (by omega) fun h1 tk hsz1 hk => ?_)
  have hop := ord_perm w a ep es
  obtain ⟨qs1, hq1, hq2⟩ := paired_perm hop hp
  have hvs := ens_vals hq1
  generalize hv : (ordS w a ep es).toList.map (·.2) = vs at hvs ⊢
  have hvl : vs.length = ps.length := by rw [hvs, List.length_map, hq2.length_eq, hpm.length_eq]
  have hII : ∀ v ∈ vs, IsII h1 v := fun v hv => by
    rw [hvs] at hv
    obtain ⟨p, hp', rfl⟩ := List.mem_map.mp hv
    have hmem := hpm.mem_iff.mp (hq2.mem_iff.mp hp')
    obtain ⟨o', items, n, ho', hc', hd', hi'⟩ := his p hmem
    have hl2 := h2 p hmem
    obtain ⟨k, b⟩ := p
    dsimp only at hl2 hi' ho' ⊢
    match k, hl2, hi' with
    | [x, y], _, hi' =>
      cases hit : items.toList with
      | nil => rw [hit] at hi'; cases hi'
      | cons v1 r1 =>
        rw [hit] at hi'
        cases hi' with
        | cons q1 q2 =>
          cases q2 with
          | cons q3 q4 =>
            cases q4
            obtain ⟨t1, rfl⟩ := Value.isInt_shape q1
            obtain ⟨t2, rfl⟩ := Value.isInt_shape q3
            refine ⟨b, o', n, x, y, t1, t2, rfl, hk _ _ ho', hc', ?_⟩
            rw [hd']
            congr 1
            rw [← Array.toArray_toList (xs := items), hit]
  refine wpAny_bind (wpAny_newList ?_ (by rw [sizeLine_eq]; omega))
  have hoL : (h1.push (seqObj "list" vs.toArray 0)).get? h1.objs.size = some (seqObj "list" vs.toArray 0) := Heap.get?_push_size _ rfl
  show wpAny _ _ _ _ _ { s with heap := h1.push (seqObj "list" vs.toArray 0), toks := tk }
  refine wpAny_bind (wpAny_holding (wpAny_call_entry slot_list_sort ⟨_, hoL, rfl⟩ entry_list_sort (list_sort_II hoL (fun v hv => (hII v hv).keep fun b o _ hb => Heap.get?_push_of_some _ hb) (by omega) fun out hout => ⟨_, rfl, ?_⟩) (args_list_sort _)))
  rw [hvs] at hout
  have hqs : ∃ qs2 : List (List Int × Addr), out.toList = qs2.map (fun p => Value.ref p.2) ∧ qs2.Perm qs1 := by
    have key : ∀ (l : List Value) (m : List (List Int × Addr)), l.Perm (m.map fun p => Value.ref p.2) → ∃ m' : List (List Int × Addr), l = m'.map (fun p => Value.ref p.2) ∧ m'.Perm m := fun l m hlm => by
      have hp0 : Paired (fun (v : Value) (p : List Int × Addr) => v = Value.ref p.2) (m.map fun p => Value.ref p.2) m := by
        clear hlm
        induction m with
        | nil => exact .nil
        | cons x m ih => exact .cons rfl ih
      obtain ⟨m', h1', h2'⟩ := paired_perm hlm hp0
      refine ⟨m', ?_, h2'⟩
      clear h2' hlm
      induction h1' with
      | nil => rfl
      | cons r _ ih => rw [List.map_cons, r]; congr 1
    exact key _ _ hout
  obtain ⟨qs2, hq3, hq4⟩ := hqs
  have := h out.toList qs2 h1 tk vs (hq4.trans (hq2.trans hpm)) hq3 hsz1 hk
  rw [Array.toArray_toList] at this
  exact wpAny_pure ⟨_, rfl, this⟩
end
end Be

/-! x = {k: v for ..}; a method of a list within a comprehension -/
namespace L2
open PySem PySem.Spec PyProof.Rows
section
variable {X : Cx}
end
end L2

/-! {(..): v for ..}: a new dict whose keys are tuples of ints and texts. -/
namespace L2
open PySem PySem.Spec PyProof.Rows
section
variable {X : Cx} {pins : List (Addr × Obj)} {σ : St} {H : Hp} {s : Shared}
end
section
variable {X : Cx}
end
end L2

/-! Set comprehensions, their elements tuples: one for, two fors. -/
namespace L2
open PySem PySem.Spec PyProof.Rows Be
section
variable {P : Program} {w : World} {K : Type} [DecidableEq K] (R : SRel P w K)
/-- a set of these keys, each once -/
def GS (a : Addr) (ps : List (K × Addr)) : HO := .ext fun h => SetG R h a ps (!byT w)
def sPut (ps : List (K × Addr)) (k : K) (b : Addr) : List (K × Addr) := if k ∈ ps.map (·.1) then ps else ps ++ [(k, b)]
def SKeys (H : Hp) (ps : List (K × Addr)) : Prop := ∀ p ∈ ps, R.at_ H p.1 p.2
variable {R}
theorem gs_new {a : Addr} {ps : List (K × Addr)} {H : Hp} {h : Heap} (d : SetG R h a ps (!byT w)) : ObjOk P w H h a (GS R a ps) := by
  refine ⟨d, let ⟨o, _, _, _, _, ho, _⟩ := d; ⟨o, ho⟩, ?_⟩
  rintro h1 h2 ⟨o, es, ep, t, qs, ho, q⟩ k
  exact ⟨o, es, ep, t, qs, k o ho, q⟩
theorem gs_of {H : Hp} {h : Heap} {a : Addr} {ps : List (K × Addr)} (ok : HOk P w H h) (e : H a = some (GS R a ps)) : SetG R h a ps (!byT w) :=
  (show ObjOk P w H h a (GS R a ps) from ok a _ e).1
theorem gs_tup {H : Hp} {a b : Addr} {ps : List (K × Addr)} {ys : List V} {o : HO} (h : H a = some (GS R a ps)) (hb : H b = some (.tup ys)) : (upd H a o) b = some (.tup ys) := by
  rw [upd_ne (fun z => by rw [z, h] at hb; cases hb)]; exact hb
theorem SKeys.keep {H H' : Hp} {ps : List (K × Addr)} (kp : ∀ a ys, H a = some (.tup ys) → H' a = some (.tup ys)) (h : SKeys R H ps) : SKeys R H' ps := fun p hp => R.keep kp (h p hp)
theorem SKeys.put {H : Hp} {ps : List (K × Addr)} {k : K} {b : Addr} (h : SKeys R H ps) (hk : R.at_ H k b) : SKeys R H (sPut ps k b) := fun p hp => by
  unfold sPut at hp
  split at hp
  · exact h p hp
  · rcases List.mem_append.mp hp with z | z
    · exact h p z
    · rw [List.mem_singleton.mp z]; exact hk
end
section
variable {X : Cx} {pins : List (Addr × Obj)} {σ : St} {H : Hp} {s : Shared} {K : Type} [DecidableEq K]
theorem sadd_ok {R : SRel X.prog X.w K} {A : Around} {E : Value → Shared → Prop} {D b : Addr} {ps : List (K × Addr)} {k : K} {u : Value} {Q : Value → Shared → Prop} (hu : A.units + 8 < cLine) (I : Inv X pins σ H s) (hD : H D = some (GS R D ps)) (hks : SKeys R H ps) (hk : R.at_ H k b) (hz : ps.length < 2000) (ry : RelV (.ref b) u)
    (h : ∀ s', Inv X pins σ (upd H D (GS R D (sPut ps k b))) s' → Q .none s') : wpAny (model X.prog X.w) A (call (.builtin "set.add") [.ref D, u]) Q E s := by
  cases (show u = Value.ref b from ry)
  have hS := gs_of I.hok hD
  have hT : s.TypeIs (.ref D) "set" := let ⟨o, _, _, _, _, ho, hex, _⟩ := hS; ⟨o, ho, hex.1⟩
  have hx := R.by_ I.hok hk
  refine wpAny_call_entry F.slot_set_add hT F.entry_set_add ?_ (F.args_set_add_2 _ _)
  unfold Builtin.«set.add» Builtin.Frozenset.oneOther
  simp only [List.isEmpty_nil, bind_assoc]
  unfold Builtin.Frozenset.addrOf setAdd
  refine wpAny_bind (wpAny_pure ?_)
  try dsimp only
  refine wpAny_bind (wpAny_pure ?_)
  try dsimp only
  refine wpAny_bind ?_
  refine wpAny_holding ?_
  refine wpAny_bind (R.hk.pyHash (R.room (by omega)) hx ?_)
  refine addT (R := R) (led := !byT X.w) (s := { s with toks := s.toks + R.hk.draws k }) (by first | exact (by omega : A.units + 1 + 2 < cLine) | omega) hS (fun p hp => R.by_ I.hok (hks p hp)) hx hz (fun hin => ?_) fun hnin h' hsb hS' => ?_
  · refine wpAny_pure ⟨_, rfl, h _ ?_⟩
    unfold sPut
    rw [if_pos hin, show upd H D (GS R D ps) = H from funext fun x => by by_cases e : x = D <;> simp [upd, e, hD]]
    exact I.tok _
  · refine wpAny_pure ⟨_, rfl, h _ ?_⟩
    unfold sPut
    rw [if_neg hnin]
    have he : ∃ q, h'.get? D = some q := let ⟨q, _, _, _, _, hq, _⟩ := hS'; ⟨q, hq⟩
    exact d_write (I.tok _) (by rw [hD]; exact True.intro) hsb he (gs_new hS')
end
theorem codeAny_compStart_set {prog : Program} {w : World} {A : Around} {R : Result → Shared → Prop} {s : Shared} {elt target iter ifs rest scope pos it acc env}
    (h0 : codeAny (model prog w) A (.compLoop (.SetComp elt (⟨target, iter, ifs, 0⟩ :: rest) scope pos) 0 it acc env) R s)
    (h : wpAny (model prog w) A (pyIter it) (fun it' s' => codeAny (model prog w) A (.compLoop (.SetComp elt (⟨target, iter, ifs, 0⟩ :: rest) scope pos) 0 it' acc env) R s')
      (notedBy (model prog w) A env fun x s' => R (.error x) s') s) :
    codeAny (model prog w) A (.compStart (.SetComp elt (⟨target, iter, ifs, 0⟩ :: rest) scope pos) 0 it acc env) R s := by
  refine codeAny_of_tree ?_
  show wpAny _ A ((compStart (.SetComp elt (⟨target, iter, ifs, 0⟩ :: rest) scope pos) 0 it acc env).onRaise (fun x => do noteFrame x env; standAt theWindowsPlace)) _ _ s
  refine wpAny_notedAt ?_
  unfold compStart
  show wpAny _ A (ask >>= _) _ _ s
  refine wpAny_bind (wpAny_askSetting (wpAny_ite ?_))
  split
  · first
      | exact wpAny_bind (wpAny_pure (wpAny_pure (And.intro rfl h0)))
      | exact wpAny_pure (And.intro rfl h0)
  · first
      | exact wpAny_bind (wpAny_rule (wpAny_bind (wpAny_standAt (wpAny_bind (wpAny_mono h (fun it' s' h' => wpAny_pure (And.intro rfl h')) fun _ _ x => x)))))
      | (refine wpAny_bind (wpAny_rule ?_); show wpAny _ _ (standAt iter.pos >>= _) _ _ s; exact wpAny_bind (wpAny_standAt (wpAny_bind (wpAny_mono h (fun it' s' h' => wpAny_pure (And.intro rfl h')) fun _ _ x => x))))
section
variable {X : Cx}
end
theorem compTurnS2_out (elt t0 i0 t1 i1 : Expr) (ifs0 ifs1 : List Expr) (scope : Scope) (pos : Pos) (it acc : Value) (env : Env) :
    compTurn (.SetComp elt [⟨t0, i0, ifs0, 0⟩, ⟨t1, i1, ifs1, 0⟩] scope pos) 0 it acc env = (do
      standAt i0.pos
      match ← pyNext it with
      | none => pure (.done .next)
      | some v =>
        letOwnedTupleGo t0 it v
        assign t0 env v
        let mut ok := true
        for c in ifs0 do
          if ok then ok ← isTrue c env (eval c env)
        if ok then
          let x ← eval i1 env
          standAt i1.pos
          let x ← foldedSetIterable i1 env x
          let _ ← runOwn (.compStart (.SetComp elt [⟨t0, i0, ifs0, 0⟩, ⟨t1, i1, ifs1, 0⟩] scope pos) 1 (← holding [x] (pyIter x)) acc env) env
        again (.compLoop (.SetComp elt [⟨t0, i0, ifs0, 0⟩, ⟨t1, i1, ifs1, 0⟩] scope pos) 0 it acc env)) := by rfl
theorem compTurnS2_in (elt t0 i0 t1 i1 : Expr) (ifs0 ifs1 : List Expr) (scope : Scope) (pos : Pos) (it acc : Value) (env : Env) :
    compTurn (.SetComp elt [⟨t0, i0, ifs0, 0⟩, ⟨t1, i1, ifs1, 0⟩] scope pos) 1 it acc env = (do
      standAt i1.pos
      match ← pyNext it with
      | none => pure (.done .next)
      | some v =>
        letOwnedTupleGo t1 it v
        assign t1 env v
        let mut ok := true
        for c in ifs1 do
          if ok then ok ← isTrue c env (eval c env)
        if ok then
          (do let v ← eval elt env; standAt elt.pos; let _ ← call (.builtin "set.add") [acc, v])
        again (.compLoop (.SetComp elt [⟨t0, i0, ifs0, 0⟩, ⟨t1, i1, ifs1, 0⟩] scope pos) 1 it acc env)) := by rfl

section
variable {prog : Program} {w : World} {A : Around} {R : Result → Shared → Prop} {s : Shared} {elt t0 i0 t1 i1 : Expr} {ifs0 ifs1 : List Expr} {scope : Scope} {pos : Pos} {it acc : Value} {env : Env}
/-- the loop of the first clause -/
theorem compLoopS2_out (hs : ∀ x, foldedSetIterable i1 env x = pure x) (I : Nat → Shared → Prop)
    (turn : ∀ n s, I n s → wpAny (model prog w) A (pyNext it) (fun r s₁ => match r with
      | none => R (.ok .next) s₁
      | some v => wpAny (model prog w) A (letOwnedTupleGo t0 it v) (fun _ s₁' => wpAny (model prog w) A (assign t0 env v) (fun _ s₂ =>
          wpAny (model prog w) A (forIn ifs0 true fun c r => if r = true then do let ok ← isTrue c env (eval c env); pure (ForInStep.yield ok) else pure (ForInStep.yield r)) (fun ok s₃ =>
            if ok = true then wpAny (model prog w) A (eval i1 env) (fun x s₄ => wpAny (model prog w) A (pyIter x) (fun it1 s₅ =>
              codeAny (model prog w) A (.compStart (.SetComp elt [⟨t0, i0, ifs0, 0⟩, ⟨t1, i1, ifs1, 0⟩] scope pos) 1 it1 acc env) (fun r s' => match r with
                | .ok _ => ∃ m, m < n ∧ I m s'
                | .error _ => False) s₅) (notedBy (model prog w) A env fun e s' => R (.error e) s') s₄) (notedBy (model prog w) A env fun e s' => R (.error e) s') s₃
            else ∃ m, m < n ∧ I m s₃) (notedBy (model prog w) A env fun e s' => R (.error e) s') s₂) (notedBy (model prog w) A env fun e s' => R (.error e) s') s₁') (notedBy (model prog w) A env fun e s' => R (.error e) s') s₁) (notedBy (model prog w) A env fun e s' => R (.error e) s') s)
    (n : Nat) (h : I n s) :
    codeAny (model prog w) A (.compLoop (.SetComp elt [⟨t0, i0, ifs0, 0⟩, ⟨t1, i1, ifs1, 0⟩] scope pos) 0 it acc env) R s := by
  refine codeAny_loop rfl I (fun n s hI => ?_) n h
  show wpAny _ A ((compTurn (.SetComp elt [⟨t0, i0, ifs0, 0⟩, ⟨t1, i1, ifs1, 0⟩] scope pos) 0 it acc env).onRaise (fun x => do noteFrame x env; theTreesLotGoes x)) _ _ s
  refine wpAny_noted ?_
  rw [compTurnS2_out]
  refine wpAny_bind (wpAny_standAt (wpAny_bind (wpAny_mono (turn n s hI) (fun r s₁ h₁ => ?_) fun _ _ h' => h')))
  cases r with
  | none => exact wpAny_pure h₁
  | some v =>
    refine wpAny_bind (wpAny_mono h₁ (fun _ s₁' h₁' => ?_) fun _ _ h' => h')
    refine wpAny_bind (wpAny_mono h₁' (fun _ s₂ h₂ => wpAny_bind (wpAny_mono h₂ (fun ok s₃ h₃ => ?_) fun _ _ h' => h')) fun _ _ h' => h')
    cases ok with
    | false => exact wpAny_pure ⟨rfl, h₃⟩
    | true =>
      refine wpAny_bind (wpAny_mono h₃ (fun x s₄ h₄ => ?_) fun _ _ h' => h')
      refine wpAny_bind (wpAny_standAt (wpAny_bind (wpAny_of_eq (hs x) (wpAny_bind (wpAny_holding (wpAny_mono h₄ (fun it1 s₅ h₅ => ?_) fun _ _ h' => h'))))))
      refine wpAny_bind (wpAny_runOwn ?_)
      rw [Around.mark_none]
      refine codeAny_mono h₅ fun r s' hr => ?_
      cases r with
      | ok f =>
        first
          | exact wpAny_pure ⟨rfl, hr⟩
          | exact wpAny_bind (wpAny_pure (wpAny_pure ⟨rfl, hr⟩))
      | error e => exact hr.elim
/-- the loop of the second -/
theorem compLoopS2_in (I : Nat → Shared → Prop)
    (turn : ∀ n s, I n s → wpAny (model prog w) A (pyNext it) (fun r s₁ => match r with
      | none => R (.ok .next) s₁
      | some v => wpAny (model prog w) A (letOwnedTupleGo t1 it v) (fun _ s₁' => wpAny (model prog w) A (assign t1 env v) (fun _ s₂ =>
          wpAny (model prog w) A (forIn ifs1 true fun c r => if r = true then do let ok ← isTrue c env (eval c env); pure (ForInStep.yield ok) else pure (ForInStep.yield r)) (fun ok s₃ =>
            if ok = true then wpAny (model prog w) A (eval elt env) (fun x s₄ =>
              wpAny (model prog w) A (call (.builtin "set.add") [acc, x]) (fun _ s₅ => ∃ m, m < n ∧ I m s₅) (notedBy (model prog w) A env fun e s' => R (.error e) s') s₄) (notedBy (model prog w) A env fun e s' => R (.error e) s') s₃
            else ∃ m, m < n ∧ I m s₃) (notedBy (model prog w) A env fun e s' => R (.error e) s') s₂) (notedBy (model prog w) A env fun e s' => R (.error e) s') s₁') (notedBy (model prog w) A env fun e s' => R (.error e) s') s₁) (notedBy (model prog w) A env fun e s' => R (.error e) s') s)
    (n : Nat) (h : I n s) :
    codeAny (model prog w) A (.compLoop (.SetComp elt [⟨t0, i0, ifs0, 0⟩, ⟨t1, i1, ifs1, 0⟩] scope pos) 1 it acc env) R s := by
  refine codeAny_loop rfl I (fun n s hI => ?_) n h
  show wpAny _ A ((compTurn (.SetComp elt [⟨t0, i0, ifs0, 0⟩, ⟨t1, i1, ifs1, 0⟩] scope pos) 1 it acc env).onRaise (fun x => do noteFrame x env; theTreesLotGoes x)) _ _ s
  refine wpAny_noted ?_
  rw [compTurnS2_in]
  refine wpAny_bind (wpAny_standAt (wpAny_bind (wpAny_mono (turn n s hI) (fun r s₁ h₁ => ?_) fun _ _ h' => h')))
  cases r with
  | none => exact wpAny_pure h₁
  | some v =>
    refine wpAny_bind (wpAny_mono h₁ (fun _ s₁' h₁' => ?_) fun _ _ h' => h')
    refine wpAny_bind (wpAny_mono h₁' (fun _ s₂ h₂ => wpAny_bind (wpAny_mono h₂ (fun ok s₃ h₃ => ?_) fun _ _ h' => h')) fun _ _ h' => h')
    cases ok with
    | false => exact wpAny_pure ⟨rfl, h₃⟩
    | true =>
      exact wpAny_bind (wpAny_bind (wpAny_mono h₃ (fun x s₄ h₄ => wpAny_bind (wpAny_standAt (wpAny_bind (wpAny_mono h₄ (fun _ s₅ h₅ => wpAny_pure (wpAny_pure ⟨rfl, h₅⟩)) fun _ _ h' => h')))) fun _ _ h' => h'))
/-- the second clause's start -/
theorem compStartS1_ok (h0 : codeAny (model prog w) A (.compLoop (.SetComp elt [⟨t0, i0, ifs0, 0⟩, ⟨t1, i1, ifs1, 0⟩] scope pos) 1 it acc env) R s)
    (h : wpAny (model prog w) A (pyIter it) (fun it' s' => codeAny (model prog w) A (.compLoop (.SetComp elt [⟨t0, i0, ifs0, 0⟩, ⟨t1, i1, ifs1, 0⟩] scope pos) 1 it' acc env) R s')
      (notedBy (model prog w) A env fun x s' => R (.error x) s') s) :
    codeAny (model prog w) A (.compStart (.SetComp elt [⟨t0, i0, ifs0, 0⟩, ⟨t1, i1, ifs1, 0⟩] scope pos) 1 it acc env) R s := by
  refine codeAny_of_tree ?_
  show wpAny _ _ ((compStart (.SetComp elt [⟨t0, i0, ifs0, 0⟩, ⟨t1, i1, ifs1, 0⟩] scope pos) 1 it acc env).onRaise (fun x => do noteFrame x env; standAt theWindowsPlace)) _ _ s
  refine wpAny_notedAt ?_
  unfold compStart
  show wpAny _ _ (ask >>= _) _ _ s
  refine wpAny_bind (wpAny_askSetting (wpAny_ite ?_))
  split
  · first
      | exact wpAny_bind (wpAny_pure (wpAny_pure (And.intro rfl h0)))
      | exact wpAny_pure (And.intro rfl h0)
  · first
      | exact wpAny_bind (wpAny_rule (wpAny_bind (wpAny_standAt (wpAny_bind (wpAny_mono h (fun it' s' h' => wpAny_pure (And.intro rfl h')) fun _ _ x => x)))))
      | (refine wpAny_bind (wpAny_rule ?_); show wpAny _ _ (standAt i1.pos >>= _) _ _ s; exact wpAny_bind (wpAny_standAt (wpAny_bind (wpAny_mono h (fun it' s' h' => wpAny_pure (And.intro rfl h')) fun _ _ x => x))))
end

section
variable {X : Cx}
/-- [elt for tg in iter if .. for tg1 in iter1 if ..]: behind the first clause's store and tests the second source's own loop, from which Nx is reached. vs: the block's names; vs1: those of the second target -/
def tSc2 {P : Program} {w : World} {K : Type} [DecidableEq K] (R : SRel P w K) (wi : TI) (g : TG) (tt : TT) (wi1 : TI) (g1 : TG) (tt1 : TT) (te : TE) (vs vs1 : List Nat) : TE := fun σ H Q => wi σ H fun J H1 => ∀ D, H1 D = none → ∃ W : Nat → Nat → Hp → Prop, (∃ m, W 0 m (upd H1 D (GS R D []))) ∧ ∀ i m H, W i m H →
  (J.stop i H ∧ Q (.ref D) H) ∨ (J.go i H ∧ ∃ Nx : Hp → Prop, (∀ H', Nx H' → ∃ m', m' < m ∧ W (i + 1) m' H') ∧ ∀ x H', J.yld i H x H' → g x (wipe σ vs) H' fun σ2 H2 => wipe σ2 vs = wipe σ vs ∧ tt σ2 H2 fun b H3 =>
    if b = true then wi1 σ2 H3 fun J1 H4 => ∃ W1 : Nat → Nat → Hp → Prop, (∃ m, W1 0 m H4) ∧ ∀ j k H, W1 j k H →
      (J1.stop j H ∧ Nx H) ∨ (J1.go j H ∧ ∃ Nx1 : Hp → Prop, (∀ H', Nx1 H' → ∃ k', k' < k ∧ W1 (j + 1) k' H') ∧ ∀ x H', J1.yld j H x H' → g1 x (wipe σ2 vs1) H' fun σ3 H5 => wipe σ3 vs1 = wipe σ2 vs1 ∧ tt1 σ3 H5 fun b H6 =>
        if b = true then te σ3 H6 fun y H7 => ∃ ps k b, y = .ref b ∧ R.at_ H7 k b ∧ H7 D = some (GS R D ps) ∧ SKeys R H7 ps ∧ ps.length < 2000 ∧ Nx1 (upd H7 D (GS R D (sPut ps k b))) else Nx1 H6)
    else Nx H3)
theorem sc2_core {K : Type} [DecidableEq K] (R : SRel X.prog X.w K) {pins : List (Addr × Obj)} {s : Shared} {σ : St} {H : Hp} {Q : VK} {elt tg iter tg1 iter1 : Expr} {ifs ifs1 : List Expr} {scope : Scope} {own : List (Str × Nat)} {vs1 : List Nat} {pos pos' : Pos} {wi wi1 : TI} {g g1 : TG} {tt tt1 : TT} {te : TE} {use : Option (Value → Sem Unit)} {Qf : Value → Shared → Prop}
    (hu : X.A.units + 64 < cLine) (hc : X.calm = true) (hN : X.N.Nodup) (I : Inv X pins σ H s) (hi : PI X tg iter wi) (ok : BlkOk X.N X.env.scope scope own) (hv : ∀ i ∈ vs1, i ∈ own.map (·.2))
    (hg : ∀ (s : Shared) (H : Hp) (C : Addr) (cl : List (Str × Addr)) (fp : List Addr), PG (X.blk s H scope (compEnvC scope cl C X.env) fp) tg g) (ht : ∀ (s : Shared) (H : Hp) (C : Addr) (cl : List (Str × Addr)) (fp : List Addr), PTs (X.blk s H scope (compEnvC scope cl C X.env) fp) ifs tt)
    (he : ∀ (s : Shared) (H : Hp) (C : Addr) (cl : List (Str × Addr)) (fp : List Addr), PE (X.blk s H scope (compEnvC scope cl C X.env) fp) elt te) (hs : ∀ x, foldedSetIterable iter X.env x = pure x)
    (hi1 : ∀ (s : Shared) (H : Hp) (C : Addr) (cl : List (Str × Addr)) (fp : List Addr), PI (X.blk s H scope (compEnvC scope cl C X.env) fp) tg1 iter1 wi1)
    (hg1 : ∀ (s : Shared) (H : Hp) (C : Addr) (cl : List (Str × Addr)) (fp : List Addr), PG (X.blk s H scope (compEnvC scope cl C X.env) fp) tg1 g1)
    (ht1 : ∀ (s : Shared) (H : Hp) (C : Addr) (cl : List (Str × Addr)) (fp : List Addr), PTs (X.blk s H scope (compEnvC scope cl C X.env) fp) ifs1 tt1)
    (hs1 : ∀ env x, foldedSetIterable iter1 env x = pure x)
    (h : tSc2 R wi g tt wi1 g1 tt1 te (own.map (·.2)) vs1 σ H Q)
    (hRR : ∀ D C s' m H', Inv X pins σ H' s' → Q (.ref D) H' → s'.heap.Ns C m → FpOk X pins H' C → compPost (model X.prog X.w) X.A X.xe use Qf (.ref D) C (.ok .next) s') :
    wpAny (model X.prog X.w) X.A (comprehension (.SetComp elt [⟨tg, iter, ifs, 0⟩, ⟨tg1, iter1, ifs1, 0⟩] scope pos) scope X.env pos' (newSet (.type "set")) false (eval iter X.env) use) Qf X.xe s := by
  have hfree : ∀ y ∈ scope.names, y.2 = .free → ∃ c, X.env.cells.lookup y.1 = some c := fun y hy e => by
    rcases ok.free y hy e with k | k
    · exact I.ok.has _ (.inl k)
    · exact I.ok.has _ (.inr k)
  refine wpAny_comprehension_free (use := use) rfl hs (closure_ok hfree) ok.kind (fun y hy e => by rw [ok.uniq y hy, e])
    (thn (hi pins s σ H _ I h) fun xv s1 hx => thn hx fun itv s2 h2 => ?_)
  obtain ⟨it, fp, tn, J, H2, e, I2, T, st2, f2, q⟩ := h2
  subst e
  have hns : newSet (.type "set") = (do let b ← setsByText; newObj (.type "set") (.set #[] 0 (.fresh 0 0 (!b)))) := rfl
  rw [hns]
  unfold setsByText
  refine wpAny_bind (wpAny_bind (wpAny_askSetting (wpAny_pure ?_)))
  show wpAny _ _ (newObj (Value.type "set") (Data.set #[] 0 (.fresh 0 0 (!byT X.w)))) _ _ _
  refine wpAny_newObj_type (newEnv_comp ?_) (by size_fits)
  generalize hD : s2.heap.objs.size = D
  have hDn : H2 D = none := I2.hok.fresh (Nat.le_of_eq hD)
  obtain ⟨W, ⟨m0, w0⟩, turn⟩ := q D hDn
  -- the new list
  generalize hs3 : ({ s2 with heap := s2.heap.push (newO X.w) } : Shared) = s3
  have I3 : Inv X pins σ (upd H2 D (GS R D [])) s3 := by
    rw [← hs3]
    refine I2.laid (t' := s2.toks) (fun b o e => Heap.get?_push_of_some _ e) (Nat.le_of_eq hD) (by rw [← hD]; exact gs_new ⟨newO X.w, #[], 0, .fresh 0 0 (!byT X.w), [], Heap.get?_push_size _ rfl, ⟨rfl, rfl, rfl⟩, rfl, HT.fresh _, .nil, List.Perm.refl _, List.nodup_nil⟩)
  have h3 : s3.heap = s2.heap.push (newO X.w) := by rw [← hs3]
  have sz : ∀ b ∈ fp, b < s2.heap.objs.size := fun b hb => by
    obtain ⟨o, e, _⟩ := T.obj _ _ st2 b hb
    exact Heap.lt_size e
  have f3 : ∀ b ∈ fp, FpOk X pins (upd H2 D (GS R D [])) b ∧ b < s3.heap.objs.size := fun b hb => by
    have hlt := sz b hb
    refine ⟨⟨?_, (f2 b hb).2⟩, by rw [h3, Heap.size_push]; exact Nat.lt_succ_of_lt hlt⟩
    rw [upd_ne (by rw [← hD]; exact Nat.ne_of_lt hlt)]
    exact (f2 b hb).1
  have st3 : tn 0 s3.heap := T.keep _ _ _ st2 fun b _ o e => by rw [h3]; exact Heap.get?_push_of_some _ e
  have I4 := block_start I3 ok hN f3
  have pg := hg s3 (upd H2 D (GS R D [])) s3.heap.objs.size (cellsFrom (s3.heap.objs.size + 1) scope.names (cloFrom X.env.cells scope.names [])) fp
  have pt := ht s3 (upd H2 D (GS R D [])) s3.heap.objs.size (cellsFrom (s3.heap.objs.size + 1) scope.names (cloFrom X.env.cells scope.names [])) fp
  have pe := he s3 (upd H2 D (GS R D [])) s3.heap.objs.size (cellsFrom (s3.heap.objs.size + 1) scope.names (cloFrom X.env.cells scope.names [])) fp
  have pi1 := hi1 s3 (upd H2 D (GS R D [])) s3.heap.objs.size (cellsFrom (s3.heap.objs.size + 1) scope.names (cloFrom X.env.cells scope.names [])) fp
  have pg1 := hg1 s3 (upd H2 D (GS R D [])) s3.heap.objs.size (cellsFrom (s3.heap.objs.size + 1) scope.names (cloFrom X.env.cells scope.names [])) fp
  have pt1 := ht1 s3 (upd H2 D (GS R D [])) s3.heap.objs.size (cellsFrom (s3.heap.objs.size + 1) scope.names (cloFrom X.env.cells scope.names [])) fp
  show codeAny _ _ (.compStart (.SetComp elt [⟨tg, iter, ifs, 0⟩, ⟨tg1, iter1, ifs1, 0⟩] scope pos) 0 (.ref it) (.ref D) (compEnvC scope (cellsFrom (s3.heap.objs.size + 1) scope.names (cloFrom X.env.cells scope.names [])) s3.heap.objs.size X.env)) (compPost (model X.prog X.w) X.A X.xe use Qf (.ref D) s3.heap.objs.size) { s3 with heap := pushCells (s3.heap.push { cls := .type "dict", data := .dict #[] }) scope.names }
  have nfp : ∀ b ∈ fp, (upd H2 D (GS R D [])) b = none := fun b hb => (f3 b hb).1.1
  generalize hce : compEnvC scope (cellsFrom (s3.heap.objs.size + 1) scope.names (cloFrom X.env.cells scope.names [])) s3.heap.objs.size X.env = ce at I4 pg pt pe pi1 pg1 pt1 ⊢
  have cL : ce.locals = s3.heap.objs.size := by subst hce; rfl
  generalize hH3 : upd H2 D (GS R D []) = H3 at I3 I4 pg pt pe pi1 pg1 pt1 w0 nfp f3
  generalize hs4 : ({ s3 with heap := pushCells (s3.heap.push { cls := .type "dict", data := .dict #[] }) scope.names } : Shared) = s4 at I4 ⊢
  have st4 : tn 0 s4.heap := T.keep _ _ _ st3 fun b _ o e => by rw [← hs4]; exact pushCells_keeps _ _ _ _ (Heap.get?_push_of_some _ e)
  have stat : ∀ {σ' : St} {H' : Hp} {s' : Shared}, Inv (X.blk s3 H3 scope ce fp) [] σ' H' s' → (∀ b ∈ fp, H' b = none) → ∀ b ∈ fp, FpOk (X.blk s3 H3 scope ce fp) [] H' b := fun {σ' H' s'} I' hn b hb =>
    ⟨hn b hb, (I'.ok.exf b hb).1, I'.ok.exfs b hb, .inl hb, fun x c e => (I'.ok.exf b hb).2 x c e, fun p hp => absurd (show p ∈ ([] : List (Addr × Obj)) ++ [] from hp) (by simp)⟩
  have loop : codeAny (model X.prog X.w) X.A (.compLoop (.SetComp elt [⟨tg, iter, ifs, 0⟩, ⟨tg1, iter1, ifs1, 0⟩] scope pos) 0 (.ref it) (.ref D) ce) (compPost (model X.prog X.w) X.A X.xe use Qf (.ref D) s3.heap.objs.size) s4 := by
    refine compLoopS2_out (hs1 ce) (fun n s' => ∃ i H', Inv (X.blk s3 H3 scope ce fp) [] (wipe σ (own.map (·.2))) H' s' ∧ tn i s'.heap ∧ (∀ b ∈ fp, H' b = none) ∧ W i n H') ?_ m0 ⟨0, H3, I4, st4, nfp, w0⟩
    rintro n s5 ⟨i, H5, I5, st5, n5, w5⟩
    rcases turn i n H5 w5 with ⟨stop, qq⟩ | ⟨go, Nx, hNx, step⟩
    · have td := T.done (X.blk s3 H3 scope ce fp) rfl rfl rfl hc i [] s5 _ H5 (fun _ _ => False) I5 (stat I5 n5) st5 stop
      refine thnF td fun r s6 ⟨hr, I6⟩ => ?_
      subst hr
      -- back in the def's context
      have I7 : Inv X pins σ H5 s6 := I3.call' (ch := fp) I6.os I6.base I6.hok I6.bare fun b hb => ⟨(f3 b hb).1.2.2.2.1, (f3 b hb).1.2.1, (f3 b hb).1.2.2.2.2.1, (f3 b hb).1.2.2.2.2.2⟩
      have nC : H5 s3.heap.objs.size = none := by
        have z : H5 ce.locals = none := I6.free
        rw [cL] at z
        exact z
      obtain ⟨m, hn, _⟩ := I6.loc
      have hn : s6.heap.Ns ce.locals m := hn
      rw [cL] at hn
      exact hRR D s3.heap.objs.size s6 m H5 I7 qq hn (I3.fpOk (Nat.le_refl _) nC)
    · have ti := T.item (X.blk s3 H3 scope ce fp) rfl rfl rfl hc i [] s5 _ H5 (fun _ _ => False) I5 (stat I5 n5) st5 go
      refine thnF ti fun r s6 ⟨u, hr, h6⟩ => ?_
      subst hr
      refine thnF h6 fun _ s7 ⟨x, H7, I7, r7, y7, st7, n7⟩ => ?_
      have I7' := I7.pinned (stat I7 n7) (T.obj _ _ st7)
      refine thnF (pg _ s7 _ H7 x u _ I7' r7 (step x H7 y7)) fun _ s8 ⟨σ8, H8, I8, hw8, q8⟩ => ?_
      refine thnF (pt _ s8 σ8 H8 _ I8 q8) fun b s9 ⟨H9, I9, q9⟩ => ?_
      -- the turn's end, from any slots that know what the block knew at its start
      have fin : ∀ {σ9 : St} {s' : Shared} {H' : Hp}, Inv (X.blk s3 H3 scope ce fp) ([] ++ pinsAt fp s7.heap) σ9 H' s' → (wipe σ (own.map (·.2))).length = σ9.length → (∀ (j : Nat) v, (wipe σ (own.map (·.2)))[j]? = some (some v) → σ9[j]? = some (some v)) → Nx H' →
          ∃ m, m < n ∧ ∃ i H', Inv (X.blk s3 H3 scope ce fp) [] (wipe σ (own.map (·.2))) H' s' ∧ tn i s'.heap ∧ (∀ b ∈ fp, H' b = none) ∧ W i m H' := fun {σ9 s' H'} I' hl hk nx => by
        obtain ⟨m', hm, w'⟩ := hNx H' nx
        have pin' : ∀ b ∈ fp, ∀ o, s7.heap.get? b = some o → s'.heap.get? b = some o ∧ H' b = none := fun b hb o e =>
          let z := I'.pin (b, o) (List.mem_append_right _ (List.mem_append_right _ (mem_pinsAt hb e)))
          ⟨z.1, z.2.1⟩
        refine ⟨m', hm, i + 1, H', (I'.unpinned (pins := [])).weak hl hk, T.keep _ _ _ st7 fun b hb o e => (pin' b hb o e).1, fun b hb => ?_, w'⟩
        obtain ⟨o, e, _⟩ := T.obj _ _ st7 b hb
        exact (pin' b hb o e).2
      have hl8 : (wipe σ (own.map (·.2))).length = σ8.length := by rw [← hw8, wipe_length]
      have hk8 : ∀ (j : Nat) v, (wipe σ (own.map (·.2)))[j]? = some (some v) → σ8[j]? = some (some v) := fun j v e => by
        rw [← hw8] at e
        exact (wipe_some e).1
      have hk9 : ∀ (j : Nat) v, (wipe σ (own.map (·.2)))[j]? = some (some v) → (wipe σ8 vs1)[j]? = some (some v) := fun j v e => by
        rw [← hw8] at e
        obtain ⟨e1, e2⟩ := wipe_some e
        rw [wipe_out fun z => e2 (hv j z)]
        exact e1
      cases b with
      | false =>
        simp only [Bool.false_eq_true, if_false] at q9 ⊢
        exact fin I9 hl8 hk8 q9
      | true =>
        simp only [if_true] at q9 ⊢
        refine thnF (pi1 _ s9 σ8 H9 _ I9 q9) fun xv s10 hx => thnF hx fun itv s11 h11 => ?_
        obtain ⟨it1, fp1, tn1, J1, H11, e1, I11, T1, st11, f11, W1, ⟨m1, w1⟩, turn1⟩ := h11
        subst e1
        -- the inner loop
        have stat1 : ∀ {H' : Hp}, (∀ b ∈ fp1, H' b = none) → ∀ b ∈ fp1, FpOk (X.blk s3 H3 scope ce fp) ([] ++ pinsAt fp s7.heap) H' b := fun hn b hb => ⟨hn b hb, (f11 b hb).2⟩
        have loop1 : codeAny (model X.prog X.w) X.A (.compLoop (.SetComp elt [⟨tg, iter, ifs, 0⟩, ⟨tg1, iter1, ifs1, 0⟩] scope pos) 1 (.ref it1) (.ref D) ce)
            (fun r s' => match r with
              | .ok _ => ∃ m, m < n ∧ ∃ i H', Inv (X.blk s3 H3 scope ce fp) [] (wipe σ (own.map (·.2))) H' s' ∧ tn i s'.heap ∧ (∀ b ∈ fp, H' b = none) ∧ W i m H'
              | .error _ => False) s11 := by
          refine compLoopS2_in (fun k s' => ∃ j H', Inv (X.blk s3 H3 scope ce fp) ([] ++ pinsAt fp s7.heap) (wipe σ8 vs1) H' s' ∧ tn1 j s'.heap ∧ (∀ b ∈ fp1, H' b = none) ∧ W1 j k H') ?_ m1 ⟨0, H11, I11.weak (wipe_length _ _) (fun j v e => (wipe_some e).1), st11, fun b hb => (f11 b hb).1, w1⟩
          rintro k s12 ⟨j, H12, I12, st12, n12, w12⟩
          rcases turn1 j k H12 w12 with ⟨stop1, nx1⟩ | ⟨go1, Nx1, hNx1, step1⟩
          · refine thnF (T1.done (X.blk s3 H3 scope ce fp) rfl rfl rfl hc j _ s12 (wipe σ8 vs1) H12 (fun _ _ => False) I12 (stat1 n12) st12 stop1) fun r s13 ⟨hr, I13⟩ => ?_
            subst hr
            exact fin I13 (hl8.trans (wipe_length σ8 vs1).symm) hk9 nx1
          · refine thnF (T1.item (X.blk s3 H3 scope ce fp) rfl rfl rfl hc j _ s12 (wipe σ8 vs1) H12 (fun _ _ => False) I12 (stat1 n12) st12 go1) fun r s13 ⟨u1, hr, h13⟩ => ?_
            subst hr
            refine thnF h13 fun _ s14 ⟨x1, H14, I14, r14, y14, st14, n14⟩ => ?_
            have I14' := I14.pinned (stat1 n14) (T1.obj _ _ st14)
            refine thnF (pg1 _ s14 (wipe σ8 vs1) H14 x1 u1 _ I14' r14 (step1 x1 H14 y14)) fun _ s15 ⟨σ15, H15, I15, hw15, q15⟩ => ?_
            refine thnF (pt1 _ s15 σ15 H15 _ I15 q15) fun b1 s16 ⟨H16, I16, q16⟩ => ?_
            have fin1 : ∀ {s' : Shared} {H' : Hp}, Inv (X.blk s3 H3 scope ce fp) (([] ++ pinsAt fp s7.heap) ++ pinsAt fp1 s14.heap) σ15 H' s' → Nx1 H' → ∃ m, m < k ∧ ∃ j H', Inv (X.blk s3 H3 scope ce fp) ([] ++ pinsAt fp s7.heap) (wipe σ8 vs1) H' s' ∧ tn1 j s'.heap ∧ (∀ b ∈ fp1, H' b = none) ∧ W1 j m H' := fun {s' H'} I' nx => by
              obtain ⟨m', hm, w'⟩ := hNx1 H' nx
              have pin' : ∀ b ∈ fp1, ∀ o, s14.heap.get? b = some o → s'.heap.get? b = some o ∧ H' b = none := fun b hb o e =>
                let z := I'.pin (b, o) (List.mem_append_right _ (List.mem_append_right _ (mem_pinsAt hb e)))
                ⟨z.1, z.2.1⟩
              refine ⟨m', hm, j + 1, H', I'.unpinned.weak (by rw [← hw15, wipe_length]) (fun j v e => by rw [← hw15] at e; exact (wipe_some e).1), T1.keep _ _ _ st14 fun b hb o e => (pin' b hb o e).1, fun b hb => ?_, w'⟩
              obtain ⟨o, e, _⟩ := T1.obj _ _ st14 b hb
              exact (pin' b hb o e).2
            cases b1 with
            | false =>
              simp only [Bool.false_eq_true, if_false] at q16 ⊢
              exact fin1 I16 q16
            | true =>
              simp only [if_true] at q16 ⊢
              refine thnF (pe _ s16 σ15 H16 _ I16 q16) fun z s17 ⟨yv, H17, I17, r17, ps, kk, bk, ek, hbk, hD17, hks17, hz17, nx⟩ => ?_
              exact sadd_ok (X := X.blk s3 H3 scope ce fp) (R := R) (by omega) I17 hD17 hks17 hbk hz17 (ek ▸ r17) fun s18 I18 => fin1 I18 nx
        exact compStartS1_ok loop1 (T1.self X.A 0 _ _ _ st11 loop1)
  exact codeAny_compStart_set loop (T.self X.A 0 _ _ _ st4 loop)
/-- as a value -/
theorem pe_sc20 {K : Type} [DecidableEq K] (R : SRel X.prog X.w K) {elt tg iter tg1 iter1 : Expr} {ifs ifs1 : List Expr} {scope : Scope} {own : List (Str × Nat)} {vs1 : List Nat} {pos : Pos} {wi wi1 : TI} {g g1 : TG} {tt tt1 : TT} {te : TE} (hu : X.A.units + 64 < cLine) (hc : X.calm = true) (hN : X.N.Nodup) (hi : PI X tg iter wi) (ok : BlkOk X.N X.env.scope scope own) (hv : ∀ i ∈ vs1, i ∈ own.map (·.2))
    (hg : ∀ (s : Shared) (H : Hp) (C : Addr) (cl : List (Str × Addr)) (fp : List Addr), PG (X.blk s H scope (compEnvC scope cl C X.env) fp) tg g) (ht : ∀ (s : Shared) (H : Hp) (C : Addr) (cl : List (Str × Addr)) (fp : List Addr), PTs (X.blk s H scope (compEnvC scope cl C X.env) fp) ifs tt)
    (hi1 : ∀ (s : Shared) (H : Hp) (C : Addr) (cl : List (Str × Addr)) (fp : List Addr), PI (X.blk s H scope (compEnvC scope cl C X.env) fp) tg1 iter1 wi1)
    (hg1 : ∀ (s : Shared) (H : Hp) (C : Addr) (cl : List (Str × Addr)) (fp : List Addr), PG (X.blk s H scope (compEnvC scope cl C X.env) fp) tg1 g1) (ht1 : ∀ (s : Shared) (H : Hp) (C : Addr) (cl : List (Str × Addr)) (fp : List Addr), PTs (X.blk s H scope (compEnvC scope cl C X.env) fp) ifs1 tt1)
    (he : ∀ (s : Shared) (H : Hp) (C : Addr) (cl : List (Str × Addr)) (fp : List Addr), PE (X.blk s H scope (compEnvC scope cl C X.env) fp) elt te) (hs : ∀ x, foldedSetIterable iter X.env x = pure x := by intro _; rfl) (hs1 : ∀ env x, foldedSetIterable iter1 env x = pure x := by intro _ _; rfl) :
    PE X (.SetComp elt [⟨tg, iter, ifs, 0⟩, ⟨tg1, iter1, ifs1, 0⟩] scope pos) (tSc2 R wi g tt wi1 g1 tt1 te (own.map (·.2)) vs1) := by
  intro pins s σ H Q I h
  rw [arm_eval_SetComp]
  refine sc2_core R hu hc hN I hi ok hv hg ht he hs hi1 hg1 ht1 hs1 h fun D C s' m H' I' q hn f => ⟨m, hn, fun h'' sb => ?_⟩
  obtain ⟨f0, f1, f2, f3, f4, f5⟩ := f
  exact ⟨.ref D, H', I'.turned (t' := s'.toks) (fun b o hb e => (sb.2 b hb).trans e) f0 f1 f3 f4 f5, rfl, q⟩
end
theorem sc2_in {P : Program} {w : World} {K : Type} [DecidableEq K] {R : SRel P w K} {J1 : It} {n : Nat} {g1 : TG} {tt1 : TT} {te : TE} {vs1 : List Nat} {σ2 : St} {H4 : Hp} {D : Addr} {Nx : Hp → Prop} (Pw : Nat → Hp → Prop) (h0 : Pw 0 H4) (hgo : ∀ j H, j < n → Pw j H → J1.go j H) (hst : ∀ H, Pw n H → J1.stop n H)
    (hs : ∀ j x H H', j < n → Pw j H → J1.yld j H x H' → g1 x (wipe σ2 vs1) H' fun σ3 H5 => wipe σ3 vs1 = wipe σ2 vs1 ∧ tt1 σ3 H5 fun b H6 =>
      if b = true then te σ3 H6 fun y H7 => ∃ ps k b, y = .ref b ∧ R.at_ H7 k b ∧ H7 D = some (GS R D ps) ∧ SKeys R H7 ps ∧ ps.length < 2000 ∧ Pw (j + 1) (upd H7 D (GS R D (sPut ps k b))) else Pw (j + 1) H6) (hd : ∀ H, Pw n H → Nx H) :
    ∃ W1 : Nat → Nat → Hp → Prop, (∃ m, W1 0 m H4) ∧ ∀ j k H, W1 j k H →
      (J1.stop j H ∧ Nx H) ∨ (J1.go j H ∧ ∃ Nx1 : Hp → Prop, (∀ H', Nx1 H' → ∃ k', k' < k ∧ W1 (j + 1) k' H') ∧ ∀ x H', J1.yld j H x H' → g1 x (wipe σ2 vs1) H' fun σ3 H5 => wipe σ3 vs1 = wipe σ2 vs1 ∧ tt1 σ3 H5 fun b H6 =>
        if b = true then te σ3 H6 fun y H7 => ∃ ps k b, y = .ref b ∧ R.at_ H7 k b ∧ H7 D = some (GS R D ps) ∧ SKeys R H7 ps ∧ ps.length < 2000 ∧ Nx1 (upd H7 D (GS R D (sPut ps k b))) else Nx1 H6) := by
  refine ⟨fun j m H => m = n - j ∧ j ≤ n ∧ Pw j H, ⟨n, by simp, Nat.zero_le _, h0⟩, ?_⟩
  rintro j m H ⟨rfl, hj, p⟩
  by_cases hlt : j < n
  · exact .inr ⟨hgo j H hlt p, Pw (j + 1), fun H' p' => ⟨n - (j + 1), by omega, rfl, hlt, p'⟩, fun x H' y => hs j x H H' hlt p y⟩
  · have e : j = n := by omega
    subst e
    exact .inl ⟨hst H p, hd H p⟩
theorem sc2_out {P : Program} {w : World} {K : Type} [DecidableEq K] {R : SRel P w K} {J : It} {n : Nat} {g : TG} {tt : TT} {wi1 : TI} {g1 : TG} {tt1 : TT} {te : TE} {vs vs1 : List Nat} {σ : St} {H1 : Hp} {D : Addr} {Qd : Hp → Prop} (Pv : Nat → Hp → Prop) (h0 : Pv 0 (upd H1 D (GS R D []))) (hgo : ∀ i H, i < n → Pv i H → J.go i H) (hst : ∀ H, Pv n H → J.stop n H)
    (hs : ∀ i x H H', i < n → Pv i H → J.yld i H x H' → g x (wipe σ vs) H' fun σ2 H2 => wipe σ2 vs = wipe σ vs ∧ tt σ2 H2 fun b H3 =>
      if b = true then wi1 σ2 H3 fun J1 H4 => ∃ W1 : Nat → Nat → Hp → Prop, (∃ m, W1 0 m H4) ∧ ∀ j k H, W1 j k H →
        (J1.stop j H ∧ Pv (i + 1) H) ∨ (J1.go j H ∧ ∃ Nx1 : Hp → Prop, (∀ H', Nx1 H' → ∃ k', k' < k ∧ W1 (j + 1) k' H') ∧ ∀ x H', J1.yld j H x H' → g1 x (wipe σ2 vs1) H' fun σ3 H5 => wipe σ3 vs1 = wipe σ2 vs1 ∧ tt1 σ3 H5 fun b H6 =>
          if b = true then te σ3 H6 fun y H7 => ∃ ps k b, y = .ref b ∧ R.at_ H7 k b ∧ H7 D = some (GS R D ps) ∧ SKeys R H7 ps ∧ ps.length < 2000 ∧ Nx1 (upd H7 D (GS R D (sPut ps k b))) else Nx1 H6)
      else Pv (i + 1) H3) (hd : ∀ H, Pv n H → Qd H) :
    ∃ W : Nat → Nat → Hp → Prop, (∃ m, W 0 m (upd H1 D (GS R D []))) ∧ ∀ i m H, W i m H →
      (J.stop i H ∧ Qd H) ∨ (J.go i H ∧ ∃ Nx : Hp → Prop, (∀ H', Nx H' → ∃ m', m' < m ∧ W (i + 1) m' H') ∧ ∀ x H', J.yld i H x H' → g x (wipe σ vs) H' fun σ2 H2 => wipe σ2 vs = wipe σ vs ∧ tt σ2 H2 fun b H3 =>
        if b = true then wi1 σ2 H3 fun J1 H4 => ∃ W1 : Nat → Nat → Hp → Prop, (∃ m, W1 0 m H4) ∧ ∀ j k H, W1 j k H →
          (J1.stop j H ∧ Nx H) ∨ (J1.go j H ∧ ∃ Nx1 : Hp → Prop, (∀ H', Nx1 H' → ∃ k', k' < k ∧ W1 (j + 1) k' H') ∧ ∀ x H', J1.yld j H x H' → g1 x (wipe σ2 vs1) H' fun σ3 H5 => wipe σ3 vs1 = wipe σ2 vs1 ∧ tt1 σ3 H5 fun b H6 =>
            if b = true then te σ3 H6 fun y H7 => ∃ ps k b, y = .ref b ∧ R.at_ H7 k b ∧ H7 D = some (GS R D ps) ∧ SKeys R H7 ps ∧ ps.length < 2000 ∧ Nx1 (upd H7 D (GS R D (sPut ps k b))) else Nx1 H6)
        else Nx H3) := by
  refine ⟨fun i m H => m = n - i ∧ i ≤ n ∧ Pv i H, ⟨n, by simp, Nat.zero_le _, h0⟩, ?_⟩
  rintro i m H ⟨rfl, hi, p⟩
  by_cases hlt : i < n
  · exact .inr ⟨hgo i H hlt p, Pv (i + 1), fun H' p' => ⟨n - (i + 1), by omega, rfl, hlt, p'⟩, fun x H' y => hs i x H H' hlt p y⟩
  · have e : i = n := by omega
    subst e
    exact .inl ⟨hst H p, hd H p⟩
end L2

namespace Be
open PySem L2 PyProof.Rows
section
variable {prog : Program} {w : World} {A : Around} {E : Value → Shared → Prop} {s : Shared}
end
end Be

namespace Be
open PySem L2
section
variable {X : Cx}
/-- a text times a number -/
theorem op_repS : OpR X (binaryOp .Mult) (fun x y H Q => ∃ a k, x = .str a ∧ y = .int k ∧ MulOk a k ∧ Q (.str (Txt.mul a k)) H) := by
  intro pins s σ H x y v u Q I rx ry h
  obtain ⟨a, k, rfl, rfl, hok, q⟩ := h
  obtain ⟨t, rfl⟩ := rx
  obtain ⟨t', rfl⟩ := ry
  exact PySem.SB.mul hok fun t' tk => ⟨.str (Txt.mul a k), H, I.tok _, ⟨_, rfl⟩, q⟩
end
end Be

namespace L2
open PySem PySem.Spec PyProof.Rows Be
section
variable {X : Cx}
/-- sorted(s), s a set of tuples of two ints: a new list of them, in some order -/
def tSortT (P : Program) (w : World) (te : TE) : TE := fun σ H Q => te σ H fun x H1 => ∃ a ps, x = .ref a ∧ H1 a = some (GS (srI P w) a ps) ∧ SKeys (srI P w) H1 ps ∧ (∀ p ∈ ps, p.1.length = 2) ∧ ps.length < 64 ∧
  ∀ (qs : List (List Int × Addr)) (p : Addr), qs.Perm ps → H1 p = none → Q (.ref p) (upd H1 p (.lst (qs.map fun q => V.ref q.2)))
theorem vals_refs {K : Type} : ∀ qs : List (K × Addr), Vals (qs.map fun q => V.ref q.2) (qs.map fun q => Value.ref q.2)
  | [] => .nil
  | q :: qs => .cons rfl (vals_refs qs)
theorem pe_sortT0 {e : Expr} {te : TE} {p1 p4 : Pos} (hc : X.calm = true) (he : PE X e te) (g1 : Gl X "sorted") (m1 : X.mg "sorted" = none)
    (hs : starEach [e] X.env = [(false, eval e X.env)] := by rfl) :
    PE X (.Call (.Name "sorted" p1) [e] [] p4) (tSortT X.prog X.w te) := by
  intro pins s σ H Q I h
  have hh := I.ok.hd hc
  refine wpAny_Call_Name_kw (ld_blt I g1 m1 PyProof.Rows.boot_sorted ?_)
  refine PyProof.Rows.callWith_builtin1 ?_ hs rfl
  rw [hs]
  show wpAny _ _ (spliced [(false, eval e X.env)]) _ _ s
  refine Calls.spliced_cons (thn (he pins s σ H _ I h) fun u s1 ⟨x, H1, I1, r1, q1⟩ => ?_)
  refine Calls.spliced_nil ?_
  obtain ⟨a, ps, rfl, ha, hks, h2, hlen, q⟩ := q1
  cases r1
  have hS := gs_of I1.hok ha
  have haS : a < s1.heap.objs.size := by
    obtain ⟨o, es, ep, t, qs, ho, _⟩ := hS
    exact Heap.lt_size ho
  refine sortedG hh hS (fun p hp => (srI X.prog X.w).by_ I1.hok (hks p hp)) h2 hlen fun out qs h1 tk vs hq hout hset1 hk => ?_
  subst hout
  have hoL : (h1.push (PyProof.Rows.seqObj "list" vs.toArray 0)).get? h1.objs.size = some (PyProof.Rows.seqObj "list" vs.toArray 0) := Heap.get?_push_size _ rfl
  obtain ⟨ep, he'⟩ := PyProof.Rows.sortedHeap_at (vs := vs) (out := (qs.map fun p => Value.ref p.2).toArray) hoL
  have hl2 : (qs.map fun q => V.ref q.2).length ≤ sizeLine := by rw [List.length_map]; exact sz_le (by have := hq.length_eq; omega)
  have hset : s1.heap.objs.size ≤ h1.objs.size := Nat.le_of_lt hset1
  refine ⟨.ref _, upd H1 h1.objs.size (.lst (qs.map fun q => V.ref q.2)), I1.laid (t' := tk) (fun b o hb => ?_) hset ⟨hl2, _, ep, vals_refs qs, he'⟩, rfl, q qs _ hq (I1.hok.fresh hset)⟩
  have hb1 := hk b o hb
  have hlt : b < h1.objs.size := Heap.lt_size hb1
  rw [PyProof.Rows.sortedHeap_old (Nat.ne_of_lt hlt) (Heap.lt_size (Heap.get?_push_of_some _ hb1))]
  exact Heap.get?_push_of_some _ hb1
theorem pe_sortT (P : Program) (w : World) {e : Expr} {te : TE} {p1 p4 : Pos} (hc : X.calm = true) (he : PE X e te) (g1 : Gl X "sorted") (m1 : X.mg "sorted" = none)
    (hs : starEach [e] X.env = [(false, eval e X.env)] := by rfl) (hP : X.prog = P := by rfl) (hw : X.w = w := by rfl) : PE X (.Call (.Name "sorted" p1) [e] [] p4) (tSortT P w te) := by subst hP hw; exact pe_sortT0 hc he g1 m1 hs
theorem pe_sc2 {P : Program} {w : World} {K : Type} [DecidableEq K] (R : SRel P w K) {elt tg iter tg1 iter1 : Expr} {ifs ifs1 : List Expr} {scope : Scope} {own : List (Str × Nat)} {vs1 : List Nat} {pos : Pos} {wi wi1 : TI} {g g1 : TG} {tt tt1 : TT} {te : TE} (hu : X.A.units + 64 < cLine) (hc : X.calm = true) (hN : X.N.Nodup) (hi : PI X tg iter wi) (ok : BlkOk X.N X.env.scope scope own) (hv : ∀ i ∈ vs1, i ∈ own.map (·.2))
    (hg : ∀ (s : Shared) (H : Hp) (C : Addr) (cl : List (Str × Addr)) (fp : List Addr), PG (X.blk s H scope (compEnvC scope cl C X.env) fp) tg g) (ht : ∀ (s : Shared) (H : Hp) (C : Addr) (cl : List (Str × Addr)) (fp : List Addr), PTs (X.blk s H scope (compEnvC scope cl C X.env) fp) ifs tt)
    (hi1 : ∀ (s : Shared) (H : Hp) (C : Addr) (cl : List (Str × Addr)) (fp : List Addr), PI (X.blk s H scope (compEnvC scope cl C X.env) fp) tg1 iter1 wi1)
    (hg1 : ∀ (s : Shared) (H : Hp) (C : Addr) (cl : List (Str × Addr)) (fp : List Addr), PG (X.blk s H scope (compEnvC scope cl C X.env) fp) tg1 g1) (ht1 : ∀ (s : Shared) (H : Hp) (C : Addr) (cl : List (Str × Addr)) (fp : List Addr), PTs (X.blk s H scope (compEnvC scope cl C X.env) fp) ifs1 tt1)
    (he : ∀ (s : Shared) (H : Hp) (C : Addr) (cl : List (Str × Addr)) (fp : List Addr), PE (X.blk s H scope (compEnvC scope cl C X.env) fp) elt te) (hs : ∀ x, foldedSetIterable iter X.env x = pure x := by intro _; rfl) (hs1 : ∀ env x, foldedSetIterable iter1 env x = pure x := by intro _ _; rfl) (hP : X.prog = P := by rfl) (hw : X.w = w := by rfl) :
    PE X (.SetComp elt [⟨tg, iter, ifs, 0⟩, ⟨tg1, iter1, ifs1, 0⟩] scope pos) (tSc2 R wi g tt wi1 g1 tt1 te (own.map (·.2)) vs1) := by subst hP hw; exact pe_sc20 R hu hc hN hi ok hv hg ht hi1 hg1 ht1 he hs hs1
end
end L2

/-! min of a list of texts -/
namespace L2
open PySem PySem.Spec PyProof.Rows
section
variable {X : Cx}
end
end L2

namespace Be
open PySem L2
/-! ### words by states, in a dict -/
def DW (H : Hp) (d : Addr) (ws : Nat → Option Str) : Prop := ∃ kvs : List (Key × V), H d = some (.dK kvs) ∧ kvs.length ≤ 2000 ∧ (∀ g : Nat, valV kvs (Sum.inl ((g : Nat) : Int)) = (ws g).map V.str) ∧ (kvs ≠ [] → ∃ g, (ws g).isSome = true)
def wl (ws : Nat → Option Str) : Nat → Option (List Nat) := fun g => (ws g).map fun x => x.cps.toList
theorem DW.same {H H' : Hp} {d : Addr} {ws : Nat → Option Str} (s : Same H H') (h : DW H d ws) : DW H' d ws := let ⟨k, h1, h2⟩ := h; ⟨k, s _ _ h1, h2⟩
section
variable {P : Program} {w : World} {K : PySem.W.Frag} {mg : Str → Option Value} {base : Heap}
/-! ### innermost_words -/
end
end Be

namespace Be
open PySem L2
abbrev chr1 (c : Nat) : Str := ⟨#[c]⟩
def TpS (H : Hp) (ts : List V) (ps : List (Nat × Nat)) : Prop := Paired (fun t p => ∃ q, t = V.ref q ∧ H q = some (.tup [.str (chr1 p.1), .str (chr1 p.2)])) ts ps
theorem TpS.same {H H' : Hp} (s : Same H H') {ts : List V} {ps : List (Nat × Nat)} (h : TpS H ts ps) : TpS H' ts ps := Paired.mapP h fun t p ⟨q, e, h⟩ => ⟨q, e, s _ _ h⟩
theorem TpS.at {H : Hp} {ts : List V} {ps : List (Nat × Nat)} (h : TpS H ts ps) {i : Nat} {p : Nat × Nat} (hp : ps[i]? = some p) : ∃ q, ts[i]? = some (.ref q) ∧ H q = some (.tup [.str (chr1 p.1), .str (chr1 p.2)]) := by
  have key : ∀ {ts : List V} {ps : List (Nat × Nat)}, TpS H ts ps → ∀ {i : Nat} {p : Nat × Nat}, ps[i]? = some p → ∃ q, ts[i]? = some (V.ref q) ∧ H q = some (.tup [.str (chr1 p.1), .str (chr1 p.2)]) := by
    intro ts ps h
    induction h with
    | nil => intro i p h; simp at h
    | cons q t ih =>
      intro i p hp
      cases i with
      | zero => cases Option.some.inj hp; obtain ⟨r, e, h⟩ := q; exact ⟨r, by rw [e]; rfl, h⟩
      | succ i => exact ih (by simpa using hp)
  exact key h hp
theorem TpS.len {H : Hp} {ts : List V} {ps : List (Nat × Nat)} (h : TpS H ts ps) : ts.length = ps.length := Paired.length h
structure Ard (M : Mach) (ws : Nat → Option Str) (l : List Nat) (ws' : Nat → Option Str) : Prop where
  one : ∀ s w, ws' s = some w → s ∈ l ∧ w.cps.toList ∈ around M (wl ws) s ∧ ∀ u ∈ around M (wl ws) s, ¬ u < w.cps.toList
  non : ∀ s, s ∈ l → ws' s = none → around M (wl ws) s = []
section
variable {P : Program} {w : World} {K : PySem.W.Frag} {mg : Str → Option Value} {base : Heap}
/-! ### words_around -/
end
end Be

namespace Be
open PySem L2
theorem TpS.keep {H H' : Hp} (k : ∀ a xs, H a = some (.tup xs) → H' a = some (.tup xs)) {ts : List V} {ps : List (Nat × Nat)} (h : TpS H ts ps) : TpS H' ts ps := Paired.mapP h fun t p ⟨q, e, h⟩ => ⟨q, e, k _ _ h⟩
theorem chs_app (M : Mach) (j c : Nat) (h : M.L[j]? = some c) : (M.L.take (j + 1)).map (fun c => (c, c)) = (M.L.take j).map (fun c => (c, c)) ++ [(c, c)] := by
  obtain ⟨hj, e⟩ := List.getElem?_eq_some_iff.mp h
  rw [List.take_succ_eq_append_getElem hj, List.map_append, e]; rfl
section
variable {P : Program} {w : World} {K : PySem.W.Frag} {mg : Str → Option Value} {base : Heap}
/-! ### choices_at -/
def spChoices : Sp := fun vs H Q _ => ∃ (M : Mach) (o r : Str) (i : Nat), vs = [.str M.letters, .str o, .str r, .int ((i : Nat) : Int)] ∧ LetOk M.letters ∧ o.cps.size ≤ 5000 ∧ r.cps.size = o.cps.size ∧
  ∀ (l : Addr) (ts : List V) (H' : Hp), Same H H' → H l = none → H' l = some (.lst ts) → TpS H' ts (Chs M o.cps.toList r.cps.toList i) → Q (.ref l) H'
abbrev NCh : List Str := ["letters", "one", "other", "place", "letter"]
theorem scCh : FnScope NCh ["letters", "one", "other", "place"] (defScope (top 28)) := ⟨rfl, rfl, rfl, by decide +kernel, rfl, by decide +kernel, by decide +kernel⟩
theorem ok_choices {f : Addr} {fd : FuncData} (D : Def K mg "choices_at" (top 28) ["letters", "one", "other", "place"] f fd) (T : BI mg) : FnOk P w K mg base CX0 1 f fd ["letters", "one", "other", "place"] spChoices := by
  refine D.F.ok scCh (fun vs H Q E h => ?_) (fun cdv A outer s H vs Q E hr h => ?_)
  · obtain ⟨M, o, r, i, rfl, _⟩ := h; rfl
  · obtain ⟨M, o, r, i, rfl, lok, ho, hro, kk⟩ := h
    refine ⟨_, (pss_cons (ps_if (pt_cmp (pc_lt (pv 3) (pe_callB call_len_str (by rfl) T.len PySem.boot_len (pa_cons (pv 1) pa_nil)))) (pss_one (ps_ret (pe_lst (pa_cons (pe_tup (pa_cons (pe_ix ix_str (pv 1) (pv 3) (fun _ _ => rfl)) (pa_cons (pe_ix ix_str (pv 2) (pv 3) (fun _ _ => rfl)) pa_nil))) pa_nil)))) pss_nil)
      (pss_one (ps_ret (pe_lc (own := [("letter", 4)]) (g := gName 4) (by rfl) scCh.nd (pi_str (pv 0))
          (blkOk_by (own := [("letter", 4)]) (N := NCh) (sc := (defScope (top 28))) (by decide +kernel))
          (fun _ _ _ _ _ => (pg_name (i := 4) scCh.nd rfl (Or.inl rfl))) (fun _ _ _ _ _ => pts_nil) (fun _ _ _ _ _ => (pe_tup (pa_cons (pv 4) (pa_cons (pv 4) pa_nil)))))))), ?_⟩
    have exo : o.cps.toList.length = o.cps.size := Array.length_toList
    have exr : r.cps.toList.length = r.cps.size := Array.length_toList
    refine ⟨_, rfl, _, rfl, o, rfl, sz_le (by show o.cps.size ≤ _; omega), _, _, rfl, rfl, _, rfl, ?_⟩
    by_cases hi : i < o.cps.size
    · refine iteD (by show ((i : Nat) : Int) < ((o.cps.size : Nat) : Int); omega) ?_
      have e1 : o.cps.toList[i]? = some (o.cps.toList.getD i 0) := by rw [List.getD_eq_getElem?_getD, List.getElem?_eq_getElem (show i < o.cps.toList.length by omega)]; rfl
      have e2 : r.cps.toList[i]? = some (r.cps.toList.getD i 0) := by rw [List.getD_eq_getElem?_getD, List.getElem?_eq_getElem (show i < r.cps.toList.length by omega)]; rfl
      refine ⟨_, rfl, _, rfl, o, _, _, rfl, rfl, sz_le (by show o.cps.size ≤ _; omega), atI_nat e1, _, rfl, _, rfl, r, _, _, rfl, rfl, sz_le (by show r.cps.size ≤ _; omega), atI_nat e2, by show 2 ≤ sizeLine; decide, fun q hq => ?_⟩
      have s1 : Same H (upd H q (.tup [.str (chr1 (o.cps.toList.getD i 0)), .str (chr1 (r.cps.toList.getD i 0))])) := Same.upd hq
      have e3 : (upd H q (.tup [.str (chr1 (o.cps.toList.getD i 0)), .str (chr1 (r.cps.toList.getD i 0))])) q = some (.tup [.str (chr1 (o.cps.toList.getD i 0)), .str (chr1 (r.cps.toList.getD i 0))]) := upd_same
      generalize upd H q (.tup [.str (chr1 (o.cps.toList.getD i 0)), .str (chr1 (r.cps.toList.getD i 0))]) = H1 at s1 e3 ⊢
      refine ⟨by show 1 ≤ sizeLine; decide, fun p hp => ?_⟩
      have s2 : Same H1 (upd H1 p (.lst [.ref q])) := Same.upd hp
      have e4 : (upd H1 p (.lst [.ref q])) p = some (.lst [.ref q]) := upd_same
      generalize upd H1 p (.lst [.ref q]) = H2 at s2 e4 ⊢
      refine kk p _ H2 (s1.trans s2) (s1.free hp) e4 ?_
      unfold Chs
      rw [if_pos (by omega)]
      exact .cons ⟨q, rfl, s2 _ _ e3⟩ .nil
    · refine iteND (by show ¬ ((i : Nat) : Int) < ((o.cps.size : Nat) : Int); omega) ?_
      have hlc : M.L.length = M.letters.cps.size := Array.length_toList
      refine ⟨_, rfl, M.letters, rfl, fun D1 hD1 => lc_it (n := M.letters.cps.size) (fun j H' => Same H H' ∧ ∃ ts, H' D1 = some (.lst ts) ∧ TpS H' ts ((M.L.take j).map fun c => (c, c))) ⟨Same.upd hD1, [], upd_same, .nil⟩ (fun j H' hj _ => hj) (fun H' _ => Nat.le_refl _) ?_ ?_⟩
      · rintro j x H1 H2 hj ⟨sT, ts, eT, hT⟩ ⟨rfl, c, hc, rfl⟩
        refine ⟨rfl, yesT ?_⟩
        rw [← Array.getElem?_toList] at hc
        have hlen : ts.length = j := by rw [hT.len, List.length_map, List.length_take]; omega
        refine ⟨_, rfl, _, rfl, by show 2 ≤ sizeLine; decide, fun q hq => ⟨ts, ?_, sz_lt (by have := lok.k3; omega), ?_⟩⟩
        · rw [upd_ne (ne_of_none eT hq)]; exact eT
        · have sq : Same H2 (upd H2 q (.tup [.str (chr1 c), .str (chr1 c)])) := Same.upd hq
          refine ⟨Same.put (sT.trans sq) hD1, _, upd_same, ?_⟩
          rw [chs_app M j c hc]
          have np : ∀ {x : Addr} {xs : List V}, (upd H2 q (.tup [.str (chr1 c), .str (chr1 c)])) x = some (.tup xs) → (upd (upd H2 q (.tup [.str (chr1 c), .str (chr1 c)])) D1 (.lst (ts ++ [.ref q]))) x = some (.tup xs) := fun {x xs} h => by
            rw [upd_ne (fun z => by rw [z, sq _ _ eT] at h; cases h)]; exact h
          exact pairedApp (hT.keep fun a xs h => np (sq _ _ h)) (.cons ⟨q, rfl, np upd_same⟩ .nil)
      · rintro H1 ⟨sT, ts, eT, hT⟩
        refine kk D1 ts H1 sT hD1 eT ?_
        unfold Chs
        rw [if_neg (by omega)]
        rw [List.take_of_length_le (by omega)] at hT
        exact hT
/-! ### moves_at -/
/-- pairs of places of moves, as tuples in a list -/
def mvN (M : Mach) (s : (Nat × Nat) × (Nat × Nat)) : Nat × Nat := (M.ix s.1.1 * M.k + M.ix s.1.2, M.ix s.2.1 * M.k + M.ix s.2.2)
def spMoves : Sp := fun vs H Q _ => ∃ (M : Mach) (o r : Str) (n t : Nat), vs = [.str M.letters, .str o, .str r, .int ((n : Nat) : Int), .int ((t : Nat) : Int)] ∧ LetOk M.letters ∧ o.cps.size ≤ 5000 ∧ r.cps.size = o.cps.size ∧ Over M.letters o ∧ Over M.letters r ∧ n ≤ 5000 ∧ t + 1 ≤ n ∧
  ∀ (l : Addr) (ts : List V) (H' : Hp), Same H H' → H l = none → H' l = some (.lst ts) → TpAt H' ts ((Stp M o.cps.toList r.cps.toList n t).map (mvN M)) → Q (.ref l) H'
abbrev NMv : List Str := ["letters", "one", "other", "long", "place", "firsts", "lasts", "first", "other_first", "last", "other_last"]
theorem scMv : FnScope NMv ["letters", "one", "other", "long", "place"] (defScope (top 29)) := ⟨rfl, rfl, rfl, by decide +kernel, rfl, by decide +kernel, by decide +kernel⟩
set_option maxHeartbeats 2000000 in
theorem ok_moves {f fCh fPa : Addr} {fd fdCh fdPa : FuncData} (D : Def K mg "moves_at" (top 29) ["letters", "one", "other", "long", "place"] f fd) (T : BI mg)
    (DCh : Def K mg "choices_at" (top 28) ["letters", "one", "other", "place"] fCh fdCh) (GCh : FnOk P w K mg base CX0 1 fCh fdCh ["letters", "one", "other", "place"] spChoices)
    (DPa : Def K mg "pair_at" (top 23) ["letters", "first", "last"] fPa fdPa) (GPa : FnOk P w K mg base CX0 1 fPa fdPa ["letters", "first", "last"] spPairAt) : FnOk P w K mg base CX0 2 f fd ["letters", "one", "other", "long", "place"] spMoves := by
  refine D.F.ok scMv (fun vs H Q E h => ?_) (fun cdv A outer s H vs Q E hr h => ?_)
  · obtain ⟨M, o, r, n, t, rfl, _⟩ := h; rfl
  · obtain ⟨M, o, r, n, t, rfl, lok, ho, hro, hovo, hovr, hn, ht, kk⟩ := h
    refine ⟨_, (pss_cons (ps_set (i := 5) scMv.nd rfl (Or.inl rfl) (pe_call GCh (hr.mono (by decide)) (by rfl) DCh.m DCh.F.kp DCh.b .nil pass0 (pa_cons (pv 0) (pa_cons (pv 1) (pa_cons (pv 2) (pa_cons (pv 4) pa_nil))))))
      (pss_cons (ps_set (i := 6) scMv.nd rfl (Or.inr rfl) (pe_call GCh (hr.mono (by decide)) (by rfl) DCh.m DCh.F.kp DCh.b .nil pass0 (pa_cons (pv 0) (pa_cons (pv 1) (pa_cons (pv 2) (pa_cons (pe_op op_sub (pe_op op_sub (pv 3) pe_int) (pv 4)) pa_nil))))))
      (pss_one (ps_ret (pe_lc2 (own := [("first", 7), ("other_first", 8), ("last", 9), ("other_last", 10)]) (vs1 := [9, 10]) (g := gTup K 2 (gCons (gName 7) (gCons (gName 8) gNil))) (g1 := gTup K 2 (gCons (gName 9) (gCons (gName 10) gNil))) (by rfl) scMv.nd (pi_list (pv 5))
          (blkOk_by (own := [("first", 7), ("other_first", 8), ("last", 9), ("other_last", 10)]) (N := NMv) (sc := (defScope (top 29))) (by decide +kernel)) (by decide)
          (fun _ _ _ _ _ => (pg_tup (by rfl) (pgs_cons (pg_name (i := 7) scMv.nd rfl (Or.inl rfl)) (pgs_cons (pg_name (i := 8) scMv.nd rfl (Or.inl rfl)) pgs_nil)))) (fun _ _ _ _ _ => pts_nil) (fun _ _ _ _ _ => (pi_listK K (pv 6))) (fun _ _ _ _ _ => (pg_tup (by rfl) (pgs_cons (pg_name (i := 9) scMv.nd rfl (Or.inl rfl)) (pgs_cons (pg_name (i := 10) scMv.nd rfl (Or.inl rfl)) pgs_nil)))) (fun _ _ _ _ _ => pts_nil) (fun _ _ _ _ _ => (pe_tup (pa_cons (pe_call GPa (hr.mono (by decide)) (by rfl) DPa.m DPa.F.kp DPa.b .nil pass0 (pa_cons (pv 0) (pa_cons (pv 7) (pa_cons (pv 9) pa_nil)))) (pa_cons (pe_call GPa (hr.mono (by decide)) (by rfl) DPa.m DPa.F.kp DPa.b .nil pass0 (pa_cons (pv 0) (pa_cons (pv 8) (pa_cons (pv 10) pa_nil)))) pa_nil))))))))), ?_⟩
    have hk3 : M.letters.cps.size ≤ 3 := lok.k3
    refine ⟨_, rfl, _, rfl, _, rfl, _, rfl, M, o, r, t, rfl, lok, ho, hro, fun l1 ts1 H1 s1 hl1 e1 hT1 => ?_⟩
    refine ⟨_, rfl, _, rfl, _, rfl, _, rfl, _, _, rfl, rfl, _, rfl, _, _, rfl, rfl, M, o, r, n - 1 - t, ?_, lok, ho, hro, fun l2 ts2 H2 s2 hl2 e2 hT2 => ?_⟩
    · show [V.str M.letters, V.str o, V.str r, V.int (((n : Nat) : Int) - 1 - ((t : Nat) : Int))] = _
      rw [show ((n : Nat) : Int) - 1 - ((t : Nat) : Int) = ((n - 1 - t : Nat) : Int) by omega]
    have hT1' := hT1.same s2
    have c1 := chs_len lok o.cps.toList r.cps.toList t
    have c2 := chs_len lok o.cps.toList r.cps.toList (n - 1 - t)
    have ro : ∀ c ∈ r.cps.toList, c ∈ M.L := hovr
    have oo : ∀ c ∈ o.cps.toList, c ∈ M.L := hovo
    have hlr : r.cps.toList.length = o.cps.toList.length := by rw [Array.length_toList, Array.length_toList]; exact hro
    have hin1 : ∀ x ∈ Chs M o.cps.toList r.cps.toList t, x.1 ∈ M.L ∧ x.2 ∈ M.L := fun x hx => chs_in oo ro hlr hx
    have hin2 : ∀ x ∈ Chs M o.cps.toList r.cps.toList (n - 1 - t), x.1 ∈ M.L ∧ x.2 ∈ M.L := fun x hx => chs_in oo ro hlr hx
    have est : Stp M o.cps.toList r.cps.toList n t = (Chs M o.cps.toList r.cps.toList t).flatMap fun f => (Chs M o.cps.toList r.cps.toList (n - 1 - t)).map fun l => ((f.1, l.1), (f.2, l.2)) := rfl
    generalize hC1 : Chs M o.cps.toList r.cps.toList t = C1 at *
    generalize hC2 : Chs M o.cps.toList r.cps.toList (n - 1 - t) = C2 at *
    obtain ⟨gl, ga⟩ := flatMap_atG (l := C1) (f := fun f => C2.map fun l => ((f.1, l.1), (f.2, l.2))) (m := C2.length) (fun x _ => by rw [List.length_map])
    have hlt1 : ts1.length = C1.length := hT1.len
    have hlt2 : ts2.length = C2.length := hT2.len
    have hmul : C1.length * C2.length ≤ 3 * 3 := Nat.mul_le_mul c1.2 c2.2
    rw [est] at kk
    generalize hGe : (C1.flatMap fun f => C2.map fun l => ((f.1, l.1), (f.2, l.2))) = G at *
    refine ⟨_, rfl, l1, rfl, ⟨_, SqL.of (s2 _ _ e1)⟩, fun D1 hD1 => lc2_out (n := C1.length) (fun i H' => Same H2 H' ∧ ∃ ts, H' D1 = some (.lst ts) ∧ TpAt H' ts ((G.take (i * C2.length)).map (mvN M))) ⟨Same.upd hD1, [], upd_same, by rw [Nat.zero_mul]; exact .nil⟩ (fun i H' hi h => ⟨_, _, SqL.of (h.1 _ _ (s2 _ _ e1)), List.getElem?_eq_getElem (by omega)⟩) (fun H' h => ⟨_, SqL.of (h.1 _ _ (s2 _ _ e1)), by omega⟩) ?_ ?_⟩
    · rintro i v H3 H4 hi ⟨sT, ts, eT, hT⟩ ⟨rfl, hv⟩
      have hv := hv _ (SqL.of (sT _ _ (s2 _ _ e1)))
      have exi : C1[i]? = some (C1[i]'hi) := List.getElem?_eq_getElem hi
      have hfi := hin1 _ (List.getElem_mem hi)
      generalize C1[i]'hi = f at exi hfi
      obtain ⟨q, hq, hqT⟩ := hT1'.at exi
      rw [hq] at hv
      cases Option.some.inj hv
      have hqH := sT _ _ hqT
      refine ⟨q, _, rfl, SqT.of hqH, rfl, _, _, rfl, _, _, rfl, rfl, wipe_sets (by decide) (by decide), yesT ?_⟩
      refine ⟨_, rfl, l2, rfl, ⟨_, SqL.of (sT _ _ e2)⟩, lc2_in (n := C2.length) (fun j H' => Same H2 H' ∧ ∃ ts, H' D1 = some (.lst ts) ∧ TpAt H' ts ((G.take (i * C2.length + j)).map (mvN M))) ⟨sT, ts, eT, hT⟩ (fun j H' hj h => ⟨_, _, SqL.of (h.1 _ _ e2), List.getElem?_eq_getElem (by omega)⟩) (fun H' h => ⟨_, SqL.of (h.1 _ _ e2), by omega⟩) ?_ ?_⟩
      · rintro j v H5 H6 hj ⟨sT5, ts5, eT5, hT5⟩ ⟨rfl, hv5⟩
        have hv5 := hv5 _ (SqL.of (sT5 _ _ e2))
        have exj : C2[j]? = some (C2[j]'hj) := List.getElem?_eq_getElem hj
        have hlj := hin2 _ (List.getElem_mem hj)
        generalize C2[j]'hj = l at exj hlj
        obtain ⟨q2, hq2, hq2T⟩ := hT2.at exj
        rw [hq2] at hv5
        cases Option.some.inj hv5
        have hgij : G[i * C2.length + j]? = some ((f.1, l.1), (f.2, l.2)) := by
          rw [ga exi hj, List.getElem?_map, exj]; rfl
        generalize hw : wipe _ [9, 10] = σ3
        have ew : σ3 = [some (.str M.letters), some (.str o), some (.str r), some (.int ((n : Nat) : Int)), some (.int ((t : Nat) : Int)), some (.ref l1), some (.ref l2), some (.str (chr1 f.1)), some (.str (chr1 f.2)), none, none] := by rw [← hw]; rfl
        subst ew
        refine ⟨q2, _, rfl, SqT.of (sT5 _ _ hq2T), rfl, _, _, rfl, _, _, rfl, rfl, rfl, yesT ?_⟩
        have hlen5 : ts5.length = i * C2.length + j := by
          have h1 := Paired.len' hT5
          have hx := (List.getElem?_eq_some_iff.mp hgij).1
          rw [List.length_map, List.length_take] at h1; omega
        have hx := (List.getElem?_eq_some_iff.mp hgij).1
        refine ⟨_, rfl, _, rfl, _, rfl, M.letters, f.1, l.1, rfl, hfi.1, hlj.1, by omega, _, rfl, _, rfl, _, rfl, M.letters, f.2, l.2, rfl, hfi.2, hlj.2, by omega, by show 2 ≤ sizeLine; decide, fun q3 hq3 => ?_⟩
        refine ⟨ts5, by rw [upd_ne (ne_of_none eT5 hq3)]; exact eT5, sz_lt (by omega), ?_⟩
        have sq : Same H6 (upd H6 q3 (.tup [.int ((M.ix f.1 * M.k + M.ix l.1 : Nat) : Int), .int ((M.ix f.2 * M.k + M.ix l.2 : Nat) : Int)])) := Same.upd hq3
        refine ⟨Same.put (sT5.trans sq) hD1, _, upd_same, ?_⟩
        have np : ∀ {x : Addr} {xs : List V}, (upd H6 q3 (.tup [.int ((M.ix f.1 * M.k + M.ix l.1 : Nat) : Int), .int ((M.ix f.2 * M.k + M.ix l.2 : Nat) : Int)])) x = some (.tup xs) → (upd (upd H6 q3 (.tup [.int ((M.ix f.1 * M.k + M.ix l.1 : Nat) : Int), .int ((M.ix f.2 * M.k + M.ix l.2 : Nat) : Int)])) D1 (.lst (ts5 ++ [.ref q3]))) x = some (.tup xs) := fun {x xs} h => by
          rw [upd_ne (fun z => by rw [z, sq _ _ eT5] at h; cases h)]; exact h
        rw [← Nat.add_assoc, take_snoc hgij, List.map_append]
        exact pairedApp (hT5.keep fun a xs h => np (sq _ _ h)) (.cons ⟨q3, rfl, np upd_same⟩ .nil)
      · rintro H5 ⟨sT5, ts5, eT5, hT5⟩
        rw [← Nat.succ_mul] at hT5
        exact ⟨sT5, ts5, eT5, hT5⟩
    rintro H3 ⟨s3, ts, e3, hT⟩
    rw [List.take_of_length_le (by omega)] at hT
    exact kk D1 ts H3 (s1.trans (s2.trans s3)) (s1.free (s2.free hD1)) e3 hT
end
end Be

namespace Be
open PySem L2
abbrev kN (x : Nat × Nat) : List Int := [((x.1 : Nat) : Int), ((x.2 : Nat) : Int)]
theorem kN_inj {a b : Nat × Nat} (h : kN a = kN b) : a = b := by
  obtain ⟨a1, a2⟩ := a
  obtain ⟨b1, b2⟩ := b
  injection h with h1 h
  injection h with h2 _
  have h1' : ((a1 : Nat) : Int) = ((b1 : Nat) : Int) := h1
  have h2' : ((a2 : Nat) : Int) = ((b2 : Nat) : Int) := h2
  rw [show a1 = b1 by omega, show a2 = b2 by omega]
theorem put_keys {ps : List (List Int × Addr)} {L : List (Nat × Nat)} (h : ps.map (·.1) = L.map kN) (nd : L.Nodup) (x : Nat × Nat) (b : Addr) : ∃ L' : List (Nat × Nat), (sPut ps (kN x) b).map (·.1) = L'.map kN ∧ L'.Nodup ∧ ∀ y, y ∈ L' ↔ y ∈ L ∨ y = x := by
  have hm : kN x ∈ ps.map (·.1) ↔ x ∈ L := by
    rw [h]
    constructor
    · intro z
      obtain ⟨y, hy, e⟩ := List.mem_map.mp z
      rw [← kN_inj e]; exact hy
    · exact fun z => List.mem_map.mpr ⟨x, z, rfl⟩
  unfold sPut
  by_cases hx : x ∈ L
  · rw [if_pos (hm.mpr hx)]
    exact ⟨L, h, nd, fun y => ⟨.inl, fun z => z.elim id fun e => by rw [e]; exact hx⟩⟩
  · rw [if_neg (fun z => hx (hm.mp z))]
    refine ⟨L ++ [x], by rw [List.map_append, List.map_append, h]; rfl, ?_, fun y => by rw [List.mem_append, List.mem_singleton]⟩
    rw [List.nodup_append]
    exact ⟨nd, by simp, fun a ha c hc => by rw [List.mem_singleton] at hc; rw [hc]; exact fun z => hx (by rw [← z]; exact ha)⟩
theorem perm_keys {ps qs : List (List Int × Addr)} {L : List (Nat × Nat)} (h : ps.map (·.1) = L.map kN) (p : qs.Perm ps) : ∃ S : List (Nat × Nat), qs.map (·.1) = S.map kN ∧ S.Perm L := by
  have key : ∀ {ps : List (List Int × Addr)} {L : List (Nat × Nat)}, ps.map (·.1) = L.map kN → Paired (fun (q : List Int × Addr) x => q.1 = kN x) ps L := by
    intro ps
    induction ps with
    | nil =>
      intro L h
      cases L with
      | nil => exact .nil
      | cons x L => cases h
    | cons q ps ih =>
      intro L h
      cases L with
      | nil => cases h
      | cons x L =>
        rw [List.map_cons, List.map_cons] at h
        injection h with h1 h2
        exact .cons h1 (ih h2)
  obtain ⟨S, h1, h2⟩ := paired_perm p (key h)
  refine ⟨S, ?_, h2⟩
  clear h2 p
  induction h1 with
  | nil => rfl
  | cons r _ ih => rw [List.map_cons, List.map_cons, r, ih]
theorem tp_keys {P : Program} {w : World} {H : Hp} : ∀ {qs : List (List Int × Addr)} {S : List (Nat × Nat)}, qs.map (·.1) = S.map kN → SKeys (srI P w) H qs → TpAt H (qs.map fun q => V.ref q.2) S
  | [], [], _, _ => .nil
  | [], _ :: _, h, _ => by cases h
  | _ :: _, [], h, _ => by cases h
  | q :: qs, x :: S, h, hk => by
    rw [List.map_cons, List.map_cons] at h
    injection h with h1 h2
    refine .cons ⟨q.2, rfl, ?_⟩ (tp_keys h2 fun p hp => hk p (List.mem_cons_of_mem _ hp))
    have := hk q List.mem_cons_self
    rw [h1] at this
    exact this
theorem TpAt.at {H : Hp} {ts : List V} {L : List (Nat × Nat)} {i : Nat} {x : Nat × Nat} (h : TpAt H ts L) (hx : L[i]? = some x) : ∃ q, ts[i]? = some (V.ref q) ∧ H q = some (.tup [.int ((x.1 : Nat) : Int), .int ((x.2 : Nat) : Int)]) := by
  obtain ⟨r, h1, q, rfl, h2⟩ := Paired.at' h hx
  exact ⟨q, h1, h2⟩
section
variable {P : Program} {w : World} {K : PySem.W.Frag} {mg : Str → Option Value} {base : Heap}
/-! ### pairs_behind -/
def spPairsB : Sp := fun vs H Q _ => ∃ (v : V) (M : Mach) (o r : Str) (n : Nat), vs = [v, .str o, .str r, .int ((n : Nat) : Int)] ∧ MAt H v M ∧ M.Ok ∧ M.moves.length ≤ 7 ∧ o.cps.size ≤ n ∧ r.cps.size = o.cps.size ∧ Over M.letters o ∧ Over M.letters r ∧ n ≤ 5000 ∧
  ∀ (l : Addr) (ts : List V) (S : List (Nat × Nat)) (H' : Hp), Same H H' → H l = none → H' l = some (.lst ts) → TpAt H' ts S → Rep M o.cps.toList r.cps.toList n (n / 2) S → Q (.ref l) H'
abbrev NPb : List Str := ["machine", "one", "other", "long", "letters", "moves", "pairs", "place", "steps", "mine", "theirs", "by", "at"]
theorem scPb : FnScope NPb ["machine", "one", "other", "long"] (defScope (top 30)) := ⟨rfl, rfl, rfl, by decide +kernel, rfl, by decide +kernel, by decide +kernel⟩
set_option maxHeartbeats 4000000 in
theorem ok_pairsB {f fMv : Addr} {fd fdMv : FuncData} (D : Def K mg "pairs_behind" (top 30) ["machine", "one", "other", "long"] f fd) (T : BI mg) (Tsorted : mg "sorted" = none)
    (DMv : Def K mg "moves_at" (top 29) ["letters", "one", "other", "long", "place"] fMv fdMv) (GMv : FnOk P w K mg base CX0 2 fMv fdMv ["letters", "one", "other", "long", "place"] spMoves) : FnOk P w K mg base CX0 3 f fd ["machine", "one", "other", "long"] spPairsB := by
  refine D.F.ok scPb (fun vs H Q E h => ?_) (fun cdv A outer s H vs Q E hr h => ?_)
  · obtain ⟨v, M, o, r, n, rfl, _⟩ := h; rfl
  · obtain ⟨v, M, o, r, n, rfl, hM, ok, h7, hon, hro, hovo, hovr, hn, kk⟩ := h
    refine ⟨_, (pss_cons (ps_asg (pe_tup (pa_cons (pe_ix ix_tup (pv 0) pe_int (fun _ _ => rfl)) (pa_cons (pe_ix ix_tup (pv 0) pe_int (fun _ _ => rfl)) pa_nil))) (pg_tup (by rfl) (pgs_cons (pg_name (i := 4) scPb.nd rfl (Or.inl rfl)) (pgs_cons (pg_name (i := 5) scPb.nd rfl (Or.inr rfl)) pgs_nil))))
      (pss_cons (ps_set (i := 6) scPb.nd rfl (Or.inl rfl) (pe_lst (pa_cons (pe_tup (pa_cons pe_int (pa_cons pe_int pa_nil))) pa_nil)))
      (pss_cons (ps_for PassesOwn.never rfl (pi_range1 (by rfl) T.range (pa_cons (pe_op op_fdiv (pv 3) pe_int) pa_nil)) (pg_name (i := 7) scPb.nd rfl (Or.inl rfl))
        (pss_cons (ps_set (i := 8) scPb.nd rfl (Or.inr rfl) (pe_call GMv (hr.mono (by decide)) (by rfl) DMv.m DMv.F.kp DMv.b .nil pass0 (pa_cons (pv 4) (pa_cons (pv 1) (pa_cons (pv 2) (pa_cons (pv 3) (pa_cons (pv 7) pa_nil)))))))
      (pss_one (ps_set (i := 6) scPb.nd rfl (Or.inl rfl) (pe_sortT P w (by rfl) (pe_sc2 (srI P w) (own := [("mine", 9), ("theirs", 10), ("by", 11), ("at", 12)]) (vs1 := [11, 12]) (g := gTup K 2 (gCons (gName 9) (gCons (gName 10) gNil))) (g1 := gTup K 2 (gCons (gName 11) (gCons (gName 12) gNil))) hr.units (by rfl) scPb.nd (pi_list (pv 6))
          (blkOk_by (own := [("mine", 9), ("theirs", 10), ("by", 11), ("at", 12)]) (N := NPb) (sc := (defScope (top 30))) (by decide +kernel)) (by decide)
          (fun _ _ _ _ _ => (pg_tup (by rfl) (pgs_cons (pg_name (i := 9) scPb.nd rfl (Or.inl rfl)) (pgs_cons (pg_name (i := 10) scPb.nd rfl (Or.inl rfl)) pgs_nil)))) (fun _ _ _ _ _ => pts_nil) (fun _ _ _ _ _ => (pi_listK K (pv 8))) (fun _ _ _ _ _ => (pg_tup (by rfl) (pgs_cons (pg_name (i := 11) scPb.nd rfl (Or.inl rfl)) (pgs_cons (pg_name (i := 12) scPb.nd rfl (Or.inl rfl)) pgs_nil)))) (fun _ _ _ _ _ => pts_nil) (fun _ _ _ _ _ => (pe_tup (pa_cons (pe_ix (ix_listK K) (pe_ix (ix_listK K) (pv 5) (pv 9) (fun _ _ => rfl)) (pv 11) (fun _ _ => rfl)) (pa_cons (pe_ix (ix_listK K) (pe_ix (ix_listK K) (pv 5) (pv 10) (fun _ _ => rfl)) (pv 12) (fun _ _ => rfl)) pa_nil))))) (by rfl) Tsorted)))))
      (pss_one (ps_ret (pv 6)))))), ?_⟩
    have oo : ∀ c ∈ o.cps.toList, c ∈ M.L := hovo
    have ro : ∀ c ∈ r.cps.toList, c ∈ M.L := hovr
    have hlr : r.cps.toList.length = o.cps.toList.length := by rw [Array.length_toList, Array.length_toList]; exact hro
    obtain ⟨b, pm, pe, pq, rs, qs0, rfl, h1, h2, h3, h4, h5, h6⟩ := id hM
    refine ⟨_, rfl, b, _, _, _, rfl, rfl, SqT.of h1, rfl, _, rfl, b, _, _, _, rfl, rfl, SqT.of h1, rfl, by show 2 ≤ sizeLine; decide, fun pt hpt => ?_⟩
    have s1 : Same H (upd H pt (.tup [.str M.letters, .ref pm])) := Same.upd hpt
    have e1 : (upd H pt (.tup [.str M.letters, .ref pm])) pt = some (.tup [.str M.letters, .ref pm]) := upd_same
    generalize upd H pt (.tup [.str M.letters, .ref pm]) = H1 at s1 e1 ⊢
    refine ⟨pt, _, rfl, SqT.of e1, rfl, _, _, rfl, _, _, rfl, rfl, ?_⟩
    refine ⟨by show 2 ≤ sizeLine; decide, fun p0 hp0 => ?_⟩
    have s2 : Same H1 (upd H1 p0 (.tup [.int 0, .int 0])) := Same.upd hp0
    have e2 : (upd H1 p0 (.tup [.int 0, .int 0])) p0 = some (.tup [.int 0, .int 0]) := upd_same
    generalize upd H1 p0 (.tup [.int 0, .int 0]) = H2 at s2 e2 ⊢
    refine ⟨by show 1 ≤ sizeLine; decide, fun l0 hl0 => ?_⟩
    have s3 : Same H2 (upd H2 l0 (.lst [.ref p0])) := Same.upd hl0
    have e3 : (upd H2 l0 (.lst [.ref p0])) l0 = some (.lst [.ref p0]) := upd_same
    generalize upd H2 l0 (.lst [.ref p0]) = H3 at s3 e3 ⊢
    have s03 := s1.trans (s2.trans s3)
    have hl0H : H l0 = none := s1.free (s2.free hl0)
    have hdiv : (((n : Nat) : Int) / 2).toNat = n / 2 := by omega
    refine ⟨_, rfl, _, _, rfl, rfl, ⟨by decide, by decide⟩, _, rfl, by omega, by omega, for_range (lo := 0) (n := (((n : Nat) : Int) / 2).toNat) (fun i σ H' => ∃ (l : Addr) (ts : List V) (S : List (Nat × Nat)) (o7 o8 o9 o10 o11 o12 : Option V), σ = [some (.ref b), some (.str o), some (.str r), some (.int ((n : Nat) : Int)), some (.str M.letters), some (.ref pm), some (.ref l), o7, o8, o9, o10, o11, o12] ∧ Same H H' ∧ H l = none ∧ H' l = some (.lst ts) ∧ TpAt H' ts S ∧ Rep M o.cps.toList r.cps.toList n i S)
      ⟨l0, [.ref p0], [(0, 0)], none, none, none, none, none, none, rfl, s03, hl0H, e3, .cons ⟨p0, rfl, s3 _ _ e2⟩ .nil, rep_start ok _ _ n⟩ ?_ ?_⟩
    · rintro i σ H4 hi ⟨l, ts, S, o7, o8, o9, o10, o11, o12, rfl, s4, hl, e4, hT, hR⟩
      rw [hdiv] at hi
      have hi2 : 2 * (i + 1) ≤ n := by omega
      obtain ⟨ndS, hltS, _⟩ := id hR
      have hk3 : M.letters.cps.size ≤ 3 := ok.let_.k3
      have hk : M.k = M.letters.cps.size := rfl
      refine ⟨_, rfl, _, rfl, _, rfl, _, rfl, _, rfl, M, o, r, n, i, ?_, ok.let_, by omega, hro, hovo, hovr, hn, by omega, fun l2 ts2 H5 s5 hl2 e5 hT5 => ?_⟩
      · rw [show (0 : Int) + ((i : Nat) : Int) = ((i : Nat) : Int) by omega]; rfl
      have hstp : ∀ y ∈ Stp M o.cps.toList r.cps.toList n i, (y.1.1 ∈ M.L ∧ y.1.2 ∈ M.L) ∧ (y.2.1 ∈ M.L ∧ y.2.2 ∈ M.L) := fun y hy => by
        unfold Stp at hy
        obtain ⟨f, hf, hy⟩ := List.mem_flatMap.mp hy
        obtain ⟨l', hl', rfl⟩ := List.mem_map.mp hy
        exact ⟨⟨(chs_in oo ro hlr hf).1, (chs_in oo ro hlr hl').1⟩, (chs_in oo ro hlr hf).2, (chs_in oo ro hlr hl').2⟩
      have hnx : ∀ S', S'.Nodup → (∀ x, x ∈ S' ↔ x ∈ Nxt M S (Stp M o.cps.toList r.cps.toList n i)) → Rep M o.cps.toList r.cps.toList n (i + 1) S' := fun S' nd hm => rep_next ok oo ro hlr hi2 hR nd hm
      generalize hST : Stp M o.cps.toList r.cps.toList n i = ST at *
      have hT5' := hT.keep fun a xs h => s5 _ _ h
      have s45 := s4.trans s5
      have hlts : ts.length = S.length := Paired.len' hT
      have hlts2 : ts2.length = ST.length := by have := Paired.len' hT5; rwa [List.length_map] at this
      obtain ⟨gl, ga⟩ := flatMap_atG (l := S) (f := fun x => ST.map fun y => (M.stp x.1 y.1, M.stp x.2 y.2)) (m := ST.length) (fun x _ => by rw [List.length_map])
      have hGN : Nxt M S ST = S.flatMap fun x => ST.map fun y => (M.stp x.1 y.1, M.stp x.2 y.2) := rfl
      rw [← hGN] at gl ga
      have hGlt : ∀ x ∈ Nxt M S ST, x.1 < M.moves.length ∧ x.2 < M.moves.length := fun x hx => by
        obtain ⟨y, hy, hx⟩ := List.mem_flatMap.mp hx
        obtain ⟨z, hz, rfl⟩ := List.mem_map.mp hx
        obtain ⟨⟨a1, a2⟩, a3, a4⟩ := hstp z hz
        obtain ⟨_, _, _, q1⟩ := Mach.cell ok (hltS y hy).1 a1 a2
        obtain ⟨_, _, _, q2⟩ := Mach.cell ok (hltS y hy).2 a3 a4
        exact ⟨q1, q2⟩
      generalize hG : Nxt M S ST = G at *
      have hpl : ∀ {L : List (Nat × Nat)} {j : Nat}, L.Nodup → (∀ x, x ∈ L ↔ x ∈ G.take j) → L.length ≤ 49 := fun {L j} nd hm => by
        have := pairs_le nd fun x hx => hGlt x (List.mem_of_mem_take ((hm x).mp hx))
        have h49 : M.moves.length * M.moves.length ≤ 7 * 7 := Nat.mul_le_mul h7 h7
        omega
      -- the set
      refine ⟨_, rfl, l, rfl, ⟨_, SqL.of (s5 _ _ e4)⟩, fun D1 hD1 => sc2_out (n := S.length) (fun a H' => Same H5 H' ∧ ∃ (ps : List (List Int × Addr)) (L : List (Nat × Nat)), H' D1 = some (GS (srI P w) D1 ps) ∧ SKeys (srI P w) H' ps ∧ ps.map (·.1) = L.map kN ∧ L.Nodup ∧ ∀ x, x ∈ L ↔ x ∈ G.take (a * ST.length)) ⟨Same.upd hD1, [], [], upd_same, (fun p hp => by cases hp), rfl, List.nodup_nil, fun x => by rw [Nat.zero_mul, List.take_zero]⟩
        (fun a H' ha h => ⟨_, _, SqL.of (h.1 _ _ (s5 _ _ e4)), List.getElem?_eq_getElem (by omega)⟩) (fun H' h => ⟨_, SqL.of (h.1 _ _ (s5 _ _ e4)), by omega⟩) ?_ ?_⟩
      · rintro a v H6 H7 ha ⟨s6, ps, L, eD, hks, hkey, nd, hm⟩ ⟨rfl, hv⟩
        have hv := hv _ (SqL.of (s6 _ _ (s5 _ _ e4)))
        have exa : S[a]? = some (S[a]'ha) := List.getElem?_eq_getElem ha
        have hax := hltS _ (List.getElem_mem ha)
        generalize S[a]'ha = x at exa hax
        obtain ⟨q, hq, hqT⟩ := hT5'.at exa
        rw [hq] at hv
        cases Option.some.inj hv
        generalize hw : wipe _ (List.map _ _) = σ2
        have ew : σ2 = [some (.ref b), some (.str o), some (.str r), some (.int ((n : Nat) : Int)), some (.str M.letters), some (.ref pm), some (.ref l), some (.int (0 + ((i : Nat) : Int))), some (.ref l2), none, none, none, none] := by rw [← hw]; rfl
        subst ew
        refine ⟨q, _, rfl, SqT.of (s6 _ _ hqT), rfl, _, _, rfl, _, _, rfl, rfl, rfl, yesT ?_⟩
        refine ⟨_, rfl, l2, rfl, ⟨_, SqL.of (s6 _ _ e5)⟩, sc2_in (n := ST.length) (fun c H' => Same H5 H' ∧ ∃ (ps : List (List Int × Addr)) (L : List (Nat × Nat)), H' D1 = some (GS (srI P w) D1 ps) ∧ SKeys (srI P w) H' ps ∧ ps.map (·.1) = L.map kN ∧ L.Nodup ∧ ∀ x, x ∈ L ↔ x ∈ G.take (a * ST.length + c)) ⟨s6, ps, L, eD, hks, hkey, nd, hm⟩
          (fun c H' hc h => ⟨_, _, SqL.of (h.1 _ _ e5), List.getElem?_eq_getElem (by omega)⟩) (fun H' h => ⟨_, SqL.of (h.1 _ _ e5), by omega⟩) ?_ ?_⟩
        · rintro c v H8 H9 hc ⟨s8, ps8, L8, eD8, hks8, hkey8, nd8, hm8⟩ ⟨rfl, hv8⟩
          have hv8 := hv8 _ (SqL.of (s8 _ _ e5))
          have exc : ST[c]? = some (ST[c]'hc) := List.getElem?_eq_getElem hc
          have hcl := hstp _ (List.getElem_mem hc)
          generalize ST[c]'hc = y at exc hcl
          obtain ⟨q2, hq2, hq2T⟩ := hT5.at (i := c) (x := mvN M y) (by rw [List.getElem?_map, exc]; rfl)
          rw [hq2] at hv8
          cases Option.some.inj hv8
          have hgac : G[a * ST.length + c]? = some (M.stp x.1 y.1, M.stp x.2 y.2) := by
            rw [ga exa hc, List.getElem?_map, exc]; rfl
          obtain ⟨r1, em1, ec1, _⟩ := Mach.cell ok hax.1 hcl.1.1 hcl.1.2
          obtain ⟨r2, em2, ec2, _⟩ := Mach.cell ok hax.2 hcl.2.1 hcl.2.2
          obtain ⟨w1, hw1, hw1R⟩ := h3.at (show (M.moves.map vI)[x.1]? = some (vI r1) by rw [List.getElem?_map, em1]; rfl)
          obtain ⟨w2, hw2, hw2R⟩ := h3.at (show (M.moves.map vI)[x.2]? = some (vI r2) by rw [List.getElem?_map, em2]; rfl)
          have s08 := s45.trans s8
          have ei1 : (vI r1)[(mvN M y).1]? = some (.int ((M.stp x.1 y.1 : Nat) : Int)) := by
            show (r1.map _)[M.ix y.1.1 * M.k + M.ix y.1.2]? = _
            rw [List.getElem?_map, ec1]; rfl
          have ei2 : (vI r2)[(mvN M y).2]? = some (.int ((M.stp x.2 y.2 : Nat) : Int)) := by
            show (r2.map _)[M.ix y.2.1 * M.k + M.ix y.2.2]? = _
            rw [List.getElem?_map, ec2]; rfl
          generalize hw : wipe _ [11, 12] = σ3
          have ew : σ3 = [some (.ref b), some (.str o), some (.str r), some (.int ((n : Nat) : Int)), some (.str M.letters), some (.ref pm), some (.ref l), some (.int (0 + ((i : Nat) : Int))), some (.ref l2), some (.int ((x.1 : Nat) : Int)), some (.int ((x.2 : Nat) : Int)), none, none] := by rw [← hw]; rfl
          subst ew
          refine ⟨q2, _, rfl, SqT.of (s8 _ _ hq2T), rfl, _, _, rfl, _, _, rfl, rfl, rfl, yesT ?_⟩
          refine ⟨_, rfl, _, rfl, pm, _, _, _, rfl, rfl, SqL.of (s08 _ _ h2), atI_nat hw1, _, rfl, w1, _, _, _, rfl, rfl, SqL.of (s08 _ _ hw1R), atI_nat ei1, _, rfl, _, rfl, pm, _, _, _, rfl, rfl, SqL.of (s08 _ _ h2), atI_nat hw2, _, rfl, w2, _, _, _, rfl, rfl, SqL.of (s08 _ _ hw2R), atI_nat ei2, by show 2 ≤ sizeLine; decide, fun q3 hq3 => ?_⟩
          have s10 : Same H9 (upd H9 q3 (.tup [.int ((M.stp x.1 y.1 : Nat) : Int), .int ((M.stp x.2 y.2 : Nat) : Int)])) := Same.upd hq3
          have e10 : (upd H9 q3 (.tup [.int ((M.stp x.1 y.1 : Nat) : Int), .int ((M.stp x.2 y.2 : Nat) : Int)])) q3 = some (.tup [.int ((M.stp x.1 y.1 : Nat) : Int), .int ((M.stp x.2 y.2 : Nat) : Int)]) := upd_same
          generalize upd H9 q3 (.tup [.int ((M.stp x.1 y.1 : Nat) : Int), .int ((M.stp x.2 y.2 : Nat) : Int)]) = H10 at s10 e10 ⊢
          obtain ⟨L', hL1, hL2, hL3⟩ := put_keys hkey8 nd8 (M.stp x.1 y.1, M.stp x.2 y.2) q3
          have hks10 : SKeys (srI P w) H10 ps8 := hks8.keep fun a xs h => s10 _ _ h
          have hlen8 : ps8.length ≤ 49 := by
            have h1 := congrArg List.length hkey8
            rw [List.length_map, List.length_map] at h1
            have := hpl nd8 hm8
            omega
          refine ⟨ps8, kN (M.stp x.1 y.1, M.stp x.2 y.2), q3, rfl, e10, s10 _ _ eD8, hks10, by omega, ?_⟩
          refine ⟨Same.put (s8.trans s10) hD1, _, L', upd_same, (SKeys.put (R := srI P w) (k := kN (M.stp x.1 y.1, M.stp x.2 y.2)) hks10 e10).keep (fun a xs h => gs_tup (s10 _ _ eD8) h), hL1, hL2, fun z => ?_⟩
          rw [hL3, hm8, ← Nat.add_assoc, take_snoc hgac, List.mem_append, List.mem_singleton]
        · rintro H8 ⟨s8, ps8, L8, eD8, hks8, hkey8, nd8, hm8⟩
          refine ⟨s8, ps8, L8, eD8, hks8, hkey8, nd8, fun x => ?_⟩
          rw [hm8, Nat.succ_mul]
      rintro H6 ⟨s6, ps, L, eD, hks, hkey, nd, hm⟩
      have hlen : ps.length ≤ 49 := by
        have h1 := congrArg List.length hkey
        rw [List.length_map, List.length_map] at h1
        have := hpl nd hm
        omega
      have h2k : ∀ p ∈ ps, p.1.length = 2 := fun p hp => by
        have : p.1 ∈ L.map kN := by rw [← hkey]; exact List.mem_map.mpr ⟨p, hp, rfl⟩
        obtain ⟨x, _, e⟩ := List.mem_map.mp this
        rw [← e]; rfl
      refine ⟨D1, ps, rfl, eD, hks, h2k, by omega, fun qs p hqs hp => ?_⟩
      obtain ⟨S', hS1, hS2⟩ := perm_keys hkey hqs
      have s7 : Same H6 (upd H6 p (.lst (qs.map fun q => V.ref q.2))) := Same.upd hp
      have e7 : (upd H6 p (.lst (qs.map fun q => V.ref q.2))) p = some (.lst (qs.map fun q => V.ref q.2)) := upd_same
      generalize upd H6 p (.lst (qs.map fun q => V.ref q.2)) = H7 at s7 e7 ⊢
      have hksq : SKeys (srI P w) H7 qs := fun q hq => (srI P w).keep (fun a xs h => s7 _ _ h) (hks q (hqs.mem_iff.mp hq))
      refine ⟨p, _, S', some (.int (0 + ((i : Nat) : Int))), some (.ref l2), o9, o10, o11, o12, rfl, s45.trans (s6.trans s7), s45.free (s6.free hp), e7, tp_keys hS1 hksq, ?_⟩
      refine hnx S' (hS2.nodup_iff.mpr nd) fun x => ?_
      rw [hS2.mem_iff, hm, List.take_of_length_le (by omega)]
    · rintro σ H4 ⟨l, ts, S, o7, o8, o9, o10, o11, o12, rfl, s4, hl, e4, hT, hR⟩
      rw [hdiv] at hR
      exact ⟨_, rfl, kk l ts S H4 s4 hl e4 hT hR⟩
end
end Be

namespace Be
open PySem L2
section
variable {P : Program} {w : World} {K : PySem.W.Frag} {mg : Str → Option Value} {base : Heap}
/-! ### some_ending_parts -/
def spSome : Sp := fun vs H Q _ => ∃ (v : V) (M : Mach) (o r : Str) (n : Nat), vs = [v, .str o, .str r, .int ((n : Nat) : Int)] ∧ MAt H v M ∧ M.Ok ∧ M.moves.length ≤ 7 ∧ o.cps.size ≤ n ∧ r.cps.size = o.cps.size ∧ Over M.letters o ∧ Over M.letters r ∧ n ≤ 5000 ∧
  ∀ (c : Bool) (H' : Hp), Same H H' → (c = true ↔ Prt M o.cps.toList r.cps.toList n) → Q (.bl c) H'
abbrev NSe : List Str := ["machine", "one", "other", "long", "letters", "moves", "ends", "middles", "pairs", "mine", "theirs", "places", "letter", "other_letter", "at", "by"]
theorem scSe : FnScope NSe ["machine", "one", "other", "long"] (defScope (top 31)) := ⟨rfl, rfl, rfl, by decide +kernel, rfl, by decide +kernel, by decide +kernel⟩
set_option maxHeartbeats 4000000 in
theorem ok_some {f fCh fPb : Addr} {fd fdCh fdPb : FuncData} (D : Def K mg "some_ending_parts" (top 31) ["machine", "one", "other", "long"] f fd) (T : BI mg) (Tany : mg "any" = none)
    (DCh : Def K mg "choices_at" (top 28) ["letters", "one", "other", "place"] fCh fdCh) (GCh : FnOk P w K mg base CX0 1 fCh fdCh ["letters", "one", "other", "place"] spChoices)
    (DPb : Def K mg "pairs_behind" (top 30) ["machine", "one", "other", "long"] fPb fdPb) (GPb : FnOk P w K mg base CX0 3 fPb fdPb ["machine", "one", "other", "long"] spPairsB) : FnOk P w K mg base CX0 4 f fd ["machine", "one", "other", "long"] spSome := by
  refine D.F.ok scSe (fun vs H Q E h => ?_) (fun cdv A outer s H vs Q E hr h => ?_)
  · obtain ⟨v, M, o, r, n, rfl, _⟩ := h; rfl
  · obtain ⟨v, M, o, r, n, rfl, hM, ok, h7, hon, hro, hovo, hovr, hn, kk⟩ := h
    refine ⟨_, (pss_cons (ps_asg (pv 0) (pg_tup (by rfl) (pgs_cons (pg_name (i := 4) scSe.nd rfl (Or.inr rfl)) (pgs_cons (pg_name (i := 5) scSe.nd rfl (Or.inl rfl)) (pgs_cons (pg_name (i := 6) scSe.nd rfl (Or.inr rfl)) (pgs_cons (pg_name (i := 7) scSe.nd rfl (Or.inr rfl)) pgs_nil))))))
      (pss_cons (ps_set (i := 8) scSe.nd rfl (Or.inl rfl) (pe_call GPb (hr.mono (by decide)) (by rfl) DPb.m DPb.F.kp DPb.b .nil pass0 (pa_cons (pv 0) (pa_cons (pv 1) (pa_cons (pv 2) (pa_cons (pv 3) pa_nil))))))
      (pss_cons (ps_if (pt_cmp (pc_eqI (pe_op op_mod (pv 3) pe_int) pe_int)) (pss_one (ps_ret (pe_callB (cr_any rfl) (by rfl) Tany (by decide +kernel) (pa_cons (pe_lc (own := [("mine", 9), ("theirs", 10)]) (g := gTup K 2 (gCons (gName 9) (gCons (gName 10) gNil))) (by rfl) scSe.nd (pi_list (pv 8))
          (blkOk_by (own := [("mine", 9), ("theirs", 10)]) (N := NSe) (sc := (defScope (top 31))) (by decide +kernel))
          (fun _ _ _ _ _ => (pg_tup (by rfl) (pgs_cons (pg_name (i := 9) scSe.nd rfl (Or.inl rfl)) (pgs_cons (pg_name (i := 10) scSe.nd rfl (Or.inl rfl)) pgs_nil)))) (fun _ _ _ _ _ => pts_nil) (fun _ _ _ _ _ => (pe_cmpR op_ne (pe_ix (ix_listK K) (pv 6) (pv 9) (fun _ _ => rfl)) (pe_ix (ix_listK K) (pv 6) (pv 10) (fun _ _ => rfl)) (nomark _)))) pa_nil)))) pss_nil)
      (pss_cons (ps_set (i := 11) scSe.nd rfl (Or.inr rfl) (pe_lc (own := [("letter", 12), ("other_letter", 13)]) (g := gTup K 2 (gCons (gName 12) (gCons (gName 13) gNil))) (by rfl) scSe.nd (pi_list (pe_call GCh (hr.mono (by decide)) (by rfl) DCh.m DCh.F.kp DCh.b .nil pass0 (pa_cons (pv 4) (pa_cons (pv 1) (pa_cons (pv 2) (pa_cons (pe_op op_fdiv (pv 3) pe_int) pa_nil))))))
          (blkOk_by (own := [("letter", 12), ("other_letter", 13)]) (N := NSe) (sc := (defScope (top 31))) (by decide +kernel))
          (fun _ _ _ _ _ => (pg_tup (by rfl) (pgs_cons (pg_name (i := 12) scSe.nd rfl (Or.inl rfl)) (pgs_cons (pg_name (i := 13) scSe.nd rfl (Or.inl rfl)) pgs_nil)))) (fun _ _ _ _ _ => pts_nil) (fun _ _ _ _ _ => (pe_tup (pa_cons (pe_sindex (pv 4) (pv 12)) (pa_cons (pe_sindex (pv 4) (pv 13)) pa_nil))))))
      (pss_one (ps_ret (pe_callB (cr_any rfl) (by rfl) Tany (by decide +kernel) (pa_cons (pe_lc2 (own := [("mine", 9), ("theirs", 10), ("at", 14), ("by", 15)]) (vs1 := [14, 15]) (g := gTup K 2 (gCons (gName 9) (gCons (gName 10) gNil))) (g1 := gTup K 2 (gCons (gName 14) (gCons (gName 15) gNil))) (by rfl) scSe.nd (pi_list (pv 8))
          (blkOk_by (own := [("mine", 9), ("theirs", 10), ("at", 14), ("by", 15)]) (N := NSe) (sc := (defScope (top 31))) (by decide +kernel)) (by decide)
          (fun _ _ _ _ _ => (pg_tup (by rfl) (pgs_cons (pg_name (i := 9) scSe.nd rfl (Or.inl rfl)) (pgs_cons (pg_name (i := 10) scSe.nd rfl (Or.inl rfl)) pgs_nil)))) (fun _ _ _ _ _ => pts_nil) (fun _ _ _ _ _ => (pi_listK K (pv 11))) (fun _ _ _ _ _ => (pg_tup (by rfl) (pgs_cons (pg_name (i := 14) scSe.nd rfl (Or.inl rfl)) (pgs_cons (pg_name (i := 15) scSe.nd rfl (Or.inl rfl)) pgs_nil)))) (fun _ _ _ _ _ => pts_nil) (fun _ _ _ _ _ => (pe_cmpR op_ne (pe_ix (ix_listK K) (pe_ix (ix_listK K) (pv 7) (pv 9) (fun _ _ => rfl)) (pv 14) (fun _ _ => rfl)) (pe_ix (ix_listK K) (pe_ix (ix_listK K) (pv 7) (pv 10) (fun _ _ => rfl)) (pv 15) (fun _ _ => rfl)) (nomark _)))) pa_nil)))))))), ?_⟩
    have oo : ∀ c ∈ o.cps.toList, c ∈ M.L := hovo
    have ro : ∀ c ∈ r.cps.toList, c ∈ M.L := hovr
    have hlr : r.cps.toList.length = o.cps.toList.length := by rw [Array.length_toList, Array.length_toList]; exact hro
    have hlo : o.cps.toList.length ≤ n := by rw [Array.length_toList]; exact hon
    have hk3 : M.letters.cps.size ≤ 3 := ok.let_.k3
    obtain ⟨b, pm, pe, pq, rs, qs0, rfl, h1, h2, h3, h4, h5, h6⟩ := id hM
    refine ⟨_, rfl, b, _, rfl, SqT.of h1, rfl, _, _, rfl, _, _, rfl, _, _, rfl, _, _, rfl, rfl, ?_⟩
    refine ⟨_, rfl, _, rfl, _, rfl, _, rfl, .ref b, M, o, r, n, rfl, hM, ok, h7, hon, hro, hovo, hovr, hn, fun l ts S H1 s1 hl e1 hT hR => ?_⟩
    obtain ⟨nd, hlt, hiff⟩ := hR
    have hlts : ts.length = S.length := Paired.len' hT
    have hS49 : S.length ≤ 49 := by
      have := pairs_le nd hlt
      have h49 : M.moves.length * M.moves.length ≤ 7 * 7 := Nat.mul_le_mul h7 h7
      omega
    have hprt := prt_pts (M := M) hlr hlo
    refine ⟨_, rfl, _, _, rfl, rfl, (by show (0 : Int) < 2; decide), _, _, rfl, rfl, _, rfl, ?_⟩
    by_cases hev : n % 2 = 0
    · refine iteD (by show ((n : Nat) : Int) % 2 = 0; omega) ?_
      have hLt : (vB (S.map fun x => (!decide (M.fin x.1 = M.fin x.2)))).length ≤ 10000000 := by unfold vB; rw [List.length_map, List.length_map]; omega
      refine ⟨_, rfl, l, rfl, ⟨_, SqL.of e1⟩, fun D1 hD1 => lc_list (K := K) (a := l) (xs := ts) (fun i H2 => Tak H1 D1 (vB (S.map fun x => (!decide (M.fin x.1 = M.fin x.2)))) i H2) (Tak.start hD1) (fun i H2 _ h => SqL.of (h.1 _ _ e1)) ?_ ?_⟩
      · rintro i v H2 hv hTk
        have hi : i < S.length := by have := (List.getElem?_eq_some_iff.mp hv).1; omega
        have exi : S[i]? = some (S[i]'hi) := List.getElem?_eq_getElem hi
        have hx := hlt _ (List.getElem_mem hi)
        generalize S[i]'hi = x at exi hx
        obtain ⟨q, hq, hqT⟩ := hT.at exi
        rw [hq] at hv
        cases Option.some.inj hv
        have s2 := s1.trans hTk.1
        have ew : (vB (S.map fun x => (!decide (M.fin x.1 = M.fin x.2))))[i]? = some (.bl (!decide (M.fin x.1 = M.fin x.2))) := by unfold vB; rw [List.getElem?_map, List.getElem?_map, exi]; rfl
        have ef1 : (vB M.ends)[x.1]? = some (V.bl (M.fin x.1)) := by rw [List.getElem?_map, Mach.fin_at ok hx.1]; rfl
        have ef2 : (vB M.ends)[x.2]? = some (V.bl (M.fin x.2)) := by rw [List.getElem?_map, Mach.fin_at ok hx.2]; rfl
        generalize hw : wipe _ (List.map _ _) = σ2
        have ew2 : σ2 = [some (.ref b), some (.str o), some (.str r), some (.int ((n : Nat) : Int)), some (.str M.letters), some (.ref pm), some (.ref pe), some (.ref pq), some (.ref l), none, none, none, none, none, none, none] := by rw [← hw]; rfl
        subst ew2
        refine ⟨q, _, rfl, SqT.of (hTk.1 _ _ hqT), rfl, _, _, rfl, _, _, rfl, rfl, rfl, yesT ?_⟩
        refine ⟨_, rfl, _, rfl, pe, _, _, _, rfl, rfl, SqL.of (s2 _ _ h4), atI_nat ef1, _, rfl, _, rfl, pe, _, _, _, rfl, rfl, SqL.of (s2 _ _ h4), atI_nat ef2, rfl, ?_⟩
        have e5 : (!decide (V.bl (M.fin x.1) = V.bl (M.fin x.2))) = !decide (M.fin x.1 = M.fin x.2) := by
          cases M.fin x.1 <;> cases M.fin x.2 <;> rfl
        rw [e5]
        exact Tak.next hD1 hTk (Same.refl _) ew hLt
      · intro H2 hTk
        obtain ⟨s2, eD⟩ := hTk.all (by unfold vB; rw [List.length_map, List.length_map]; omega)
        refine ⟨D1, _, rfl, SqL.of eD, kk _ H2 (s1.trans s2) ?_⟩
        rw [← hprt, ← hiff]
        rw [List.any_eq_true]
        constructor
        · rintro ⟨c, hc, hc2⟩
          obtain ⟨x, hx, rfl⟩ := List.mem_map.mp hc
          refine ⟨x, hx, (pts_even (by omega)).mpr fun z => ?_⟩
          rw [z] at hc2
          simp at hc2
        · rintro ⟨x, hx, hp⟩
          have := (pts_even (by omega)).mp hp
          exact ⟨_, List.mem_map.mpr ⟨x, hx, rfl⟩, by simpa using this⟩
    · refine iteND (by show ¬ ((n : Nat) : Int) % 2 = 0; omega) ?_
      have hodd : n = 2 * (n / 2) + 1 := by omega
      have s0 := s1
      refine ⟨_, rfl, _, rfl, _, rfl, _, rfl, _, _, rfl, rfl, ⟨by decide, by decide⟩, M, o, r, n / 2, ?_, ok.let_, by omega, hro, fun l2 tc H2 s2 hl2 e2 hTC => ?_⟩
      · show [V.str M.letters, V.str o, V.str r, V.int (((n : Nat) : Int) / 2)] = _
        rw [show ((n : Nat) : Int) / 2 = ((n / 2 : Nat) : Int) by omega]
      have hodd2 := fun p q => pts_odd (M := M) (o := o.cps.toList) (r := r.cps.toList) (p := p) (q := q) hodd
      have c3 := chs_len ok.let_ o.cps.toList r.cps.toList (n / 2)
      have hin : ∀ x ∈ Chs M o.cps.toList r.cps.toList (n / 2), x.1 ∈ M.L ∧ x.2 ∈ M.L := fun x hx => chs_in oo ro hlr hx
      generalize hC : Chs M o.cps.toList r.cps.toList (n / 2) = C at *
      have hltc : tc.length = C.length := hTC.len
      refine ⟨l2, rfl, ⟨_, SqL.of e2⟩, fun D2 hD2 => lc_list (K := K) (a := l2) (xs := tc) (fun i H' => Same H2 H' ∧ ∃ ts, H' D2 = some (.lst ts) ∧ TpAt H' ts ((C.take i).map fun c => (M.ix c.1, M.ix c.2))) ⟨Same.upd hD2, [], upd_same, .nil⟩ (fun i H' _ h => SqL.of (h.1 _ _ e2)) ?_ ?_⟩
      · rintro i v H3 hv ⟨s3, ts3, e3, hT3⟩
        have hi : i < C.length := by have := (List.getElem?_eq_some_iff.mp hv).1; omega
        have exi : C[i]? = some (C[i]'hi) := List.getElem?_eq_getElem hi
        have hx := hin _ (List.getElem_mem hi)
        generalize C[i]'hi = x at exi hx
        obtain ⟨q, hq, hqT⟩ := hTC.at exi
        rw [hq] at hv
        cases Option.some.inj hv
        have hlen3 : ts3.length = i := by
          have := Paired.len' hT3
          rw [List.length_map, List.length_take] at this; omega
        generalize hw : wipe _ (List.map _ _) = σ2
        have ew2 : σ2 = [some (.ref b), some (.str o), some (.str r), some (.int ((n : Nat) : Int)), some (.str M.letters), some (.ref pm), some (.ref pe), some (.ref pq), some (.ref l), none, none, none, none, none, none, none] := by rw [← hw]; rfl
        subst ew2
        refine ⟨q, _, rfl, SqT.of (s3 _ _ hqT), rfl, _, _, rfl, _, _, rfl, rfl, rfl, yesT ?_⟩
        refine ⟨_, rfl, ⟨_, rfl⟩, _, rfl, M.letters, x.1, rfl, rfl, hx.1, _, rfl, ⟨_, rfl⟩, _, rfl, M.letters, x.2, rfl, rfl, hx.2, by show 2 ≤ sizeLine; decide, fun q3 hq3 => ?_⟩
        have s4 : Same H3 (upd H3 q3 (.tup [.int ((M.letters.cps.toList.idxOf x.1 : Nat) : Int), .int ((M.letters.cps.toList.idxOf x.2 : Nat) : Int)])) := Same.upd hq3
        have e4 : (upd H3 q3 (.tup [.int ((M.letters.cps.toList.idxOf x.1 : Nat) : Int), .int ((M.letters.cps.toList.idxOf x.2 : Nat) : Int)])) q3 = some (.tup [.int ((M.letters.cps.toList.idxOf x.1 : Nat) : Int), .int ((M.letters.cps.toList.idxOf x.2 : Nat) : Int)]) := upd_same
        generalize upd H3 q3 (.tup [.int ((M.letters.cps.toList.idxOf x.1 : Nat) : Int), .int ((M.letters.cps.toList.idxOf x.2 : Nat) : Int)]) = H4 at s4 e4 ⊢
        refine ⟨ts3, s4 _ _ e3, sz_lt (by omega), Same.put (s3.trans s4) hD2, _, upd_same, ?_⟩
        rw [take_snoc exi, List.map_append]
        have np : ∀ {y : Addr} {xs : List V}, H4 y = some (.tup xs) → (upd H4 D2 (.lst (ts3 ++ [.ref q3]))) y = some (.tup xs) := fun {y xs} h => by
          rw [upd_ne (fun z => by rw [z, s4 _ _ e3] at h; cases h)]; exact h
        exact pairedApp (hT3.keep fun a xs h => np (s4 _ _ h)) (.cons ⟨q3, rfl, np e4⟩ .nil)
      rintro H3 ⟨s3, tp, e3, hT3⟩
      rw [hltc, List.take_of_length_le (Nat.le_refl _)] at hT3
      have hltp : tp.length = C.length := by have := Paired.len' hT3; rwa [List.length_map] at this
      have s23 := s2.trans s3
      have s03 := s1.trans s23
      obtain ⟨gl, ga⟩ := flatMap_atG (l := S) (f := fun x => C.map fun c => !decide (M.mid x.1 c.1 = M.mid x.2 c.2)) (m := C.length) (fun x _ => by rw [List.length_map])
      have hmul : S.length * C.length ≤ 49 * 3 := Nat.mul_le_mul hS49 c3.2
      have hGm : ∀ z, z ∈ (S.flatMap fun x => C.map fun c => !decide (M.mid x.1 c.1 = M.mid x.2 c.2)) ↔ ∃ x ∈ S, ∃ c ∈ C, z = !decide (M.mid x.1 c.1 = M.mid x.2 c.2) := fun z => by
        rw [List.mem_flatMap]
        constructor
        · rintro ⟨x, hx, hz⟩
          obtain ⟨c, hc, rfl⟩ := List.mem_map.mp hz
          exact ⟨x, hx, c, hc, rfl⟩
        · rintro ⟨x, hx, c, hc, rfl⟩
          exact ⟨x, hx, List.mem_map.mpr ⟨c, hc, rfl⟩⟩
      generalize hG : (S.flatMap fun x => C.map fun c => !decide (M.mid x.1 c.1 = M.mid x.2 c.2)) = G at *
      have hLt : (vB G).length ≤ 10000000 := by unfold vB; rw [List.length_map]; omega
      refine ⟨_, rfl, l, rfl, ⟨_, SqL.of (s23 _ _ e1)⟩, fun D3 hD3 => lc2_out (n := S.length) (fun i H' => Tak H3 D3 (vB G) (i * C.length) H') (by rw [Nat.zero_mul]; exact Tak.start hD3)
        (fun i H' hi h => ⟨_, _, SqL.of (h.1 _ _ (s23 _ _ e1)), List.getElem?_eq_getElem (by omega)⟩) (fun H' h => ⟨_, SqL.of (h.1 _ _ (s23 _ _ e1)), by omega⟩) ?_ ?_⟩
      · rintro i v H4 H5 hi hTk ⟨rfl, hv⟩
        have hv := hv _ (SqL.of (hTk.1 _ _ (s23 _ _ e1)))
        have exi : S[i]? = some (S[i]'hi) := List.getElem?_eq_getElem hi
        have hx := hlt _ (List.getElem_mem hi)
        generalize S[i]'hi = x at exi hx
        obtain ⟨q, hq, hqT⟩ := hT.at exi
        rw [hq] at hv
        cases Option.some.inj hv
        generalize hw : wipe _ (List.map _ _) = σ2
        have ew2 : σ2 = [some (.ref b), some (.str o), some (.str r), some (.int ((n : Nat) : Int)), some (.str M.letters), some (.ref pm), some (.ref pe), some (.ref pq), some (.ref l), none, none, some (.ref D2), none, none, none, none] := by rw [← hw]; rfl
        subst ew2
        refine ⟨q, _, rfl, SqT.of (hTk.1 _ _ (s23 _ _ hqT)), rfl, _, _, rfl, _, _, rfl, rfl, rfl, yesT ?_⟩
        refine ⟨_, rfl, D2, rfl, ⟨_, SqL.of (hTk.1 _ _ e3)⟩, lc2_in (n := C.length) (fun j H' => Tak H3 D3 (vB G) (i * C.length + j) H') hTk (fun j H' hj h => ⟨_, _, SqL.of (h.1 _ _ e3), List.getElem?_eq_getElem (by omega)⟩) (fun H' h => ⟨_, SqL.of (h.1 _ _ e3), by omega⟩) ?_ ?_⟩
        · rintro j v H6 H7 hj hTk6 ⟨rfl, hv6⟩
          have hv6 := hv6 _ (SqL.of (hTk6.1 _ _ e3))
          have exj : C[j]? = some (C[j]'hj) := List.getElem?_eq_getElem hj
          have hy := hin _ (List.getElem_mem hj)
          generalize C[j]'hj = y at exj hy
          obtain ⟨q2, hq2, hq2T⟩ := hT3.at (i := j) (x := (M.ix y.1, M.ix y.2)) (by rw [List.getElem?_map, exj]; rfl)
          rw [hq2] at hv6
          cases Option.some.inj hv6
          have hgij : (vB G)[i * C.length + j]? = some (.bl (!decide (M.mid x.1 y.1 = M.mid x.2 y.2))) := by
            unfold vB
            rw [List.getElem?_map, ga exi hj, List.getElem?_map, exj]; rfl
          have s6 := s03.trans hTk6.1
          obtain ⟨r1, em1, ec1⟩ := Mach.mid_at ok hx.1 hy.1
          obtain ⟨r2, em2, ec2⟩ := Mach.mid_at ok hx.2 hy.2
          obtain ⟨w1, hw1, hw1R⟩ := h6.at (show (M.mids.map vB)[x.1]? = some (vB r1) by rw [List.getElem?_map, em1]; rfl)
          obtain ⟨w2, hw2, hw2R⟩ := h6.at (show (M.mids.map vB)[x.2]? = some (vB r2) by rw [List.getElem?_map, em2]; rfl)
          have ei1 : (vB r1)[M.ix y.1]? = some (.bl (M.mid x.1 y.1)) := by rw [List.getElem?_map, ec1]; rfl
          have ei2 : (vB r2)[M.ix y.2]? = some (.bl (M.mid x.2 y.2)) := by rw [List.getElem?_map, ec2]; rfl
          generalize hw : wipe _ [14, 15] = σ3
          have ew3 : σ3 = [some (.ref b), some (.str o), some (.str r), some (.int ((n : Nat) : Int)), some (.str M.letters), some (.ref pm), some (.ref pe), some (.ref pq), some (.ref l), some (.int ((x.1 : Nat) : Int)), some (.int ((x.2 : Nat) : Int)), some (.ref D2), none, none, none, none] := by rw [← hw]; rfl
          subst ew3
          refine ⟨q2, _, rfl, SqT.of (hTk6.1 _ _ hq2T), rfl, _, _, rfl, _, _, rfl, rfl, rfl, yesT ?_⟩
          refine ⟨_, rfl, _, rfl, pq, _, _, _, rfl, rfl, SqL.of (s6 _ _ h5), atI_nat hw1, _, rfl, w1, _, _, _, rfl, rfl, SqL.of (s6 _ _ hw1R), atI_nat ei1, _, rfl, _, rfl, pq, _, _, _, rfl, rfl, SqL.of (s6 _ _ h5), atI_nat hw2, _, rfl, w2, _, _, _, rfl, rfl, SqL.of (s6 _ _ hw2R), atI_nat ei2, rfl, ?_⟩
          have e5 : (!decide (V.bl (M.mid x.1 y.1) = V.bl (M.mid x.2 y.2))) = !decide (M.mid x.1 y.1 = M.mid x.2 y.2) := by
            cases M.mid x.1 y.1 <;> cases M.mid x.2 y.2 <;> rfl
          rw [e5]
          exact Tak.next hD3 hTk6 (Same.refl _) hgij hLt
        · intro H6 hTk6
          rw [← Nat.succ_mul] at hTk6
          exact hTk6
      intro H4 hTk
      obtain ⟨s4, eD⟩ := hTk.all (by unfold vB; rw [List.length_map]; omega)
      refine ⟨D3, G, rfl, SqL.of eD, kk _ H4 (s03.trans s4) ?_⟩
      rw [← hprt, ← hiff, List.any_eq_true]
      constructor
      · rintro ⟨z, hz, hz2⟩
        obtain ⟨x, hx, c, hc, rfl⟩ := (hGm z).mp hz
        refine ⟨x, hx, (hodd2 _ _).mpr ⟨c, hc, fun e => ?_⟩⟩
        rw [e] at hz2
        simp at hz2
      · rintro ⟨x, hx, hp⟩
        obtain ⟨c, hc, hne⟩ := (hodd2 _ _).mp hp
        exact ⟨_, (hGm _).mpr ⟨x, hx, c, hc, rfl⟩, by simpa using hne⟩
end
end Be

/-! Own classes: what the top has written of them, isinstance of an own class. -/
namespace L2
open PySem PySem.Spec PyProof.Rows
structure Kl (K : PySem.W.Frag) (mg : Str → Option Value) (x : Str) (C : Addr) : Prop where
  m : mg x = some (.ref C)
  cl : Cls K C
  cA : PySem.W.findIn K (.ref C) "__class__" = some (some (.builtin "object.__class__"))
  cN : PySem.W.specialIn K (.builtin "object.__class__") "__get__" = some (some (.builtin "getset_descriptor.__get__"))
  cT : PySem.W.takesIn K (.builtin "object.__class__") = some true
  cM : PySem.W.mroIn K C (.type "object") = some true
theorem Kl.ty {K : PySem.W.Frag} {mg : Str → Option Value} {x : Str} {C : Addr} (k : Kl K mg x C) {H : Hp} {a dx : Addr} {fs : List (Str × V)} (e : H a = some (.ins C dx fs)) : TyOf K H (.ref a) (.ref C) := .ins e k.cl k.cA k.cN k.cT k.cM
def clsB : Stmt → List Stmt
  | .ClassDef _ _ _ b .. => b
  | _ => []
section
variable {X : Cx}
theorem call_isinstC : CallR X (.builtin "isinstance") (fun vs H Q => ∃ x C t b, vs = [x, .ref C] ∧ TyOf X.K H x t ∧ PySem.W.kitOne X.K t (.ref C) = some b ∧ Q (.bl b) H) := by
  intro pins s σ H xs us Q I r h
  obtain ⟨x, C, t, b, rfl, ty, e, q⟩ := h
  obtain ⟨u, u2, rfl, r1, r2⟩ := vals2 r
  obtain rfl : u2 = Value.ref C := r2
  exact isinst_ok I r1 ty e fun tk => ⟨.bl b, H, I.tok tk, rfl, q⟩
end
end L2

/-! C() of a class without an __init__ of its own. -/
namespace L2
open PySem PySem.Spec PyProof.Rows
structure Mk0 (K : PySem.W.Frag) (C : Addr) : Prop where
  makes : PySem.W.makesIn K C = true
  init : PySem.W.findIn K (.ref C) "__init__" = some (some (.builtin "object.__init__"))
  kp : PySem.W.keepIn K (.ref C) = true
section
variable {X : Cx} {C : Addr} {x : Str} {p pos : Pos}
def tMake0 (C : Addr) : TE := fun _ H Q => ∀ x dx, H x = none → H dx = none → dx ≠ x → Q (.ref x) (upd (upd H dx (.own x)) x (.ins C dx []))
theorem pe_makeN (M : Mk0 X.K C) (hg : Gl X x) (hm : X.mg x = some (.ref C)) (hdb : (x == ("__debug__" : Str)) = false := by decide) : PE X (.Call (.Name x p) [] [] pos) (tMake0 C) := by
  intro pins s σ H Q I h
  refine wpAny_Call_Name_kw (ld_glob I hg hm ?_ hdb)
  refine PySem.W.callWith_K0 I.kIn M.kp ?_
  have hq := h (s.heap.objs.size + 1) s.heap.objs.size (I.hok.fresh (Nat.le_succ _)) (I.hok.fresh (Nat.le_refl _)) (Nat.ne_of_lt (Nat.lt_succ_self _))
  have I2 := Inv.made (C := C) I
  have kIn := I.kIn
  obtain ⟨hh, g, d, t, os⟩ := s
  have Y := PySem.W.makes_of (M := model X.prog X.w) kIn M.makes
  have hx : ((hh.push PySem.W.emptyDict).push (PySem.W.instObj C hh.objs.size)).get? (hh.objs.size + 1) = some (PySem.W.instObj C hh.objs.size) := by
    have := Heap.get?_push_size (hh.push PySem.W.emptyDict) (o := PySem.W.instObj C hh.objs.size) rfl
    rwa [Heap.size_push] at this
  refine wpAny_call (PySem.W.make_core Y (PySem.W.looks_findIn kIn M.init) (fun self => PySem.W.Looks.of_pure (PySem.W.oi_bind self)) (.inr ⟨rfl, rfl⟩) ?_)
  have t1 : PySem.W.Looks (model X.prog X.w) ((hh.push PySem.W.emptyDict).push (PySem.W.instObj C hh.objs.size)) (typeOf (.ref (hh.objs.size + 1))) (.ref C) := (PySem.W.Looks.ld hx).andThen .now
  have t2 : PySem.W.Looks (model X.prog X.w) ((hh.push PySem.W.emptyDict).push (PySem.W.instObj C hh.objs.size)) (isInstance (.ref (hh.objs.size + 1)) (.type "object")) true := t1.andThen (Y.top.keeps fun b o e => Heap.get?_push_of_some _ (Heap.get?_push_of_some _ e))
  refine codeAny_call_builtin PySem.W.oi_plain PySem.W.entry_oi (@PySem.W.check_slot (model X.prog X.w) _ _ _ "object.__init__" "object" "__init__" (.ref (hh.objs.size + 1)) [] [] _ PySem.W.oi_kind PySem.W.oi_split t2 (PySem.W.oi_args (.ref (hh.objs.size + 1))) ?_)
  show wpAny _ _ (Builtin.«object.__init__» ⟨[Value.ref (hh.objs.size + 1)], []⟩) _ _ _
  rw [PySem.W.oi_run]
  exact wpAny_pure (And.intro rfl ⟨.ref _, _, I2, rfl, hq⟩)
end
end L2

namespace Be
open PySem L2
theorem LeastBy.facts {M : Mach} {g : Nat → Nat} {ord : List Nat} (L : LeastBy M g ord) : IsLeast (lmach M g ord) ∧ (lmach M g ord).letters = M.letters ∧ Eqs M (lmach M g ord) 0 0 :=
  ⟨L.isLeast, rfl, by have := L.eqs (run_facts L.ok L.run).2.2.2.1; rw [L.g0] at this; exact this⟩
section
variable {P : Program} {w : World} {K : PySem.W.Frag} {mg : Str → Option Value} {base : Heap}
/-! ### check_length -/
def spCheckLength : Sp := fun vs H Q _ => ∃ (i l m : Int), vs = [.int i, .int l, .int m] ∧ l ≤ i ∧ i ≤ m ∧ Q .non H
theorem scCL : FnScope ["long", "fewest", "most"] ["long", "fewest", "most"] (defScope (top 21)) := ⟨rfl, rfl, rfl, by decide +kernel, rfl, by decide +kernel, by decide +kernel⟩
set_option maxHeartbeats 1000000 in
theorem ok_checklength {f f7 : Addr} {fd fd7 : FuncData} (D : Def K mg "check_length" (top 21) ["long", "fewest", "most"] f fd) (T : BI mg)
    (D7 : Def K mg "is_number" (top 8) ["value"] f7 fd7) (G7 : FnOk P w K mg base CX0 1 f7 fd7 ["value"] spIsNumber) :
    FnOk P w K mg base CX0 2 f fd ["long", "fewest", "most"] spCheckLength := by
  refine D.F.ok scCL (fun vs H Q E h => ?_) (fun cdv A outer s H vs Q E hr h => ?_)
  · obtain ⟨i, l, m, rfl, _⟩ := h; rfl
  · obtain ⟨i, l, m, rfl, h0, h1, kk⟩ := h
    refine ⟨_, (pss_one (ps_if (PW.pt (pw_or (pt_not (pt_val (pe_call G7 (hr.mono (by decide)) (by rfl) D7.m D7.F.kp D7.b .nil pass0 (pa_cons (pv 0) pa_nil)))) (pw_or1 (pt_not (pt_chain op_le op_le (pv 1) (pv 0) (pv 2)))))) pss_never pss_nil)), ?_⟩
    refine ⟨_, rfl, _, rfl, _, rfl, iteF ?_⟩
    refine ⟨_, rfl, _, rfl, _, _, rfl, rfl, _, rfl, iteD h0 ⟨_, rfl, _, _, rfl, rfl, _, rfl, ?_⟩⟩
    rw [decide_eq_true h1]
    exact iteF kk
/-! ### counts_inside -/
/-! ### how_many -/
/-! ### others -/
end
end Be

namespace Be
open PySem L2
/-! ### numbers: mathematics -/
theorem textsL_in {L : List Nat} : ∀ {w : List Nat}, (∀ c ∈ w, c ∈ L) → w ∈ textsL L w.length
  | [], _ => by show [] ∈ [[]]; simp
  | c :: w, h => by
    rw [List.length_cons, textsL_cons, List.mem_flatMap]
    exact ⟨c, h c (List.mem_cons_self ..), List.mem_map.mpr ⟨w, textsL_in fun d hd => h d (List.mem_cons_of_mem _ hd), rfl⟩⟩
/-- how many words of n letters that begin so are had from q on -/
def pcq (M : Mach) (q n : Nat) (b : List Nat) : Nat := (textsL M.L (n - b.length)).countP fun w => M.hasAt q (b ++ w)
/-- how many had words are ahead of one -/
def num (M : Mach) (n : Nat) : List Nat → List Nat → Nat
  | _, [] => 0
  | b, c :: r => ((M.L.take (M.ix c)).map fun d => pcq M 0 n (b ++ [d])).sum + num M n (b ++ [c]) r
/-! ### pairs taken away -/
end Be

namespace L2
open PySem PySem.Spec PyProof.Rows
theorem ip_cat {X : Cx} : PIp X .Add (fun x y H Q => ∃ i j, x = .str i ∧ y = .str j ∧ i.length + j.length ≤ sizeLine ∧ Q (.str (i ++ j)) H) := iop_add_str
end L2
namespace Be
open PySem L2
theorem iteNN {c A B : Prop} [Decidable c] (hc : ¬ c) (h : A) : if (!decide c) = true then A else B := by
  rw [decide_eq_false hc]
  exact iteT h
theorem app_sizeS (x y : Str) : (x ++ y).cps.size = x.cps.size + y.cps.size := by
  have := congrArg List.length (app_list x y)
  rw [List.length_append, Array.length_toList, Array.length_toList, Array.length_toList] at this
  exact this
/-! ### endings that part two beginnings, in order -/
def px (M : Mach) (n : Nat) (o r : List Nat) : List (List Nat) := (textsL M.L (n - o.length)).filter fun w => decide (M.hasAt 0 (o ++ w) ≠ M.hasAt 0 (r ++ w))
theorem px_mem {M : Mach} {n : Nat} {o r w : List Nat} : w ∈ px M n o r ↔ w.length = n - o.length ∧ (∀ c ∈ w, c ∈ M.L) ∧ M.hasAt 0 (o ++ w) ≠ M.hasAt 0 (r ++ w) := by
  unfold px
  rw [List.mem_filter, decide_eq_true_iff]
  constructor
  · rintro ⟨h1, h2⟩
    obtain ⟨a, b⟩ := textsL_mem h1
    exact ⟨a, b, h2⟩
  · rintro ⟨h1, h2, h3⟩
    refine ⟨?_, h3⟩
    rw [← h1]
    exact textsL_in h2
theorem px_prt {M : Mach} {n : Nat} {o r : List Nat} : px M n o r ≠ [] ↔ Prt M o r n := by
  constructor
  · intro h
    obtain ⟨e, he⟩ := List.exists_mem_of_ne_nil _ h
    exact ⟨e, px_mem.mp he⟩
  · rintro ⟨e, he⟩ h
    have := px_mem.mpr he
    rw [h] at this; cases this
theorem px_split {M : Mach} {n : Nat} {o r : List Nat} (h : o.length < n) : px M n o r = M.L.flatMap fun c => (px M n (o ++ [c]) (r ++ [c])).map fun w => c :: w := by
  unfold px
  obtain ⟨t, ht⟩ : ∃ t, n - o.length = t + 1 := ⟨n - o.length - 1, by omega⟩
  rw [ht, textsL_cons, List.filter_flatMap]
  congr 1
  funext c
  have e : n - (o ++ [c]).length = t := by rw [List.length_append]; show n - (o.length + 1) = t; omega
  rw [e, List.filter_map]
  congr 2
  funext w
  show decide (M.hasAt 0 (o ++ c :: w) ≠ M.hasAt 0 (r ++ c :: w)) = decide (M.hasAt 0 ((o ++ [c]) ++ w) ≠ M.hasAt 0 ((r ++ [c]) ++ w))
  rw [List.append_assoc, List.append_assoc]; rfl
theorem head_flat {α β : Type} {f : α → List β} : ∀ {l : List α} {q : α → Bool}, (∀ c ∈ l, q c = true ↔ f c ≠ []) → ∀ {c : α}, (l.filter q).head? = some c → (l.flatMap f).head? = (f c).head?
  | [], _, _, c, h => by cases h
  | x :: l, q, hq, c, h => by
    rw [List.flatMap_cons]
    by_cases hx : q x = true
    · rw [List.filter_cons_of_pos hx, List.head?_cons] at h
      cases Option.some.inj h
      have := (hq x List.mem_cons_self).mp hx
      cases hf : f x with
      | nil => exact absurd hf this
      | cons a b => rfl
    · rw [List.filter_cons_of_neg (by simpa using hx)] at h
      have hn : f x = [] := by
        by_cases z : f x = []
        · exact z
        · exact absurd ((hq x List.mem_cons_self).mpr z) hx
      rw [hn, List.nil_append]
      exact head_flat (fun c hc => hq c (List.mem_cons_of_mem _ hc)) h
section
variable {P : Program} {w : World} {K : PySem.W.Frag} {mg : Str → Option Value} {base : Heap}
/-! ### Told(ending) -/
abbrev stTod : Stmt := (stN (clsB (top 37)) 0)
theorem scTod : FnScope ["self", "ending"] ["self", "ending"] (defScope stTod) := ⟨rfl, rfl, rfl, by decide +kernel, rfl, by decide +kernel, by decide +kernel⟩
def spInitSn (C : Addr) (fld : Str) : Sp := fun vs H Q _ => ∃ (x dx : Addr) (y : Str), vs = [.ref x, .str y] ∧ H x = some (.ins C dx []) ∧ Q .non (upd H x (.ins C dx [(fld, .str y)]))
theorem ok_initTold {f C : Addr} {fd : FuncData} (F : Fun K "__init__" "Told.__init__" stTod f fd) (cl : Cls K C) (nf : NoAttr K C "ending") : FnOk P w K mg base CX0 1 f fd ["self", "ending"] (spInitSn C "ending") := by
  refine F.ok scTod (fun vs H Q E h => ?_) (fun cdv A outer s H vs Q E hr h => ?_)
  · obtain ⟨x, dx, y, rfl, _⟩ := h; rfl
  · obtain ⟨x, dx, y, rfl, hx, kk⟩ := h
    refine ⟨_, pss_one (ps_fld (pv 0) (pv 1) rfl), ?_⟩
    exact ⟨_, rfl, _, rfl, x, C, dx, [], rfl, hx, cl, nf, by decide, kk⟩
/-! ### Told.shows -/
def parts (M : Mach) (o r : List Nat) (n : Nat) (y : List Nat) : Bool := decide (o.length + y.length = n) && decide (M.hasAt 0 (o ++ y) ≠ M.hasAt 0 (r ++ y))
def spShowsT (C : Addr) : Sp := fun vs H Q _ => ∃ (x dx : Addr) (y : Str) (v : V) (M : Mach) (o r : Str) (n : Nat), vs = [.ref x, v, .str o, .str r, .int ((n : Nat) : Int)] ∧ H x = some (.ins C dx [("ending", .str y)]) ∧ MAt H v M ∧ M.Ok ∧ Over M.letters y ∧ y.cps.size ≤ 4000 ∧ Over M.letters o ∧ Over M.letters r ∧ o.cps.size ≤ 4000 ∧ r.cps.size ≤ 4000 ∧
  ∀ H', Same H H' → Q (.bl (parts M o.cps.toList r.cps.toList n y.cps.toList)) H'
abbrev NTs : List Str := ["self", "machine", "one", "other", "long"]
theorem scTs : FnScope NTs ["self", "machine", "one", "other", "long"] (defScope (stN (clsB (top 37)) 1)) := ⟨rfl, rfl, rfl, by decide +kernel, rfl, by decide +kernel, by decide +kernel⟩
set_option maxHeartbeats 2000000 in
theorem ok_showsT {f fTx fRd C : Addr} {fd fdTx fdRd : FuncData} (F : Fun K "shows" "Told.shows" (stN (clsB (top 37)) 1) f fd) (T : BI mg) (cl : Cls K C) (nf : NoAttr K C "ending")
    (DTx : Def K mg "is_text_of" (top 17) ["letters", "value"] fTx fdTx) (GTx : FnOk P w K mg base CX0 1 fTx fdTx ["letters", "value"] spIsTextOf)
    (DRd : Def K mg "reads" (top 25) ["machine", "word"] fRd fdRd) (GRd : FnOk P w K mg base CX0 3 fRd fdRd ["machine", "word"] spReads) : FnOk P w K mg base CX0 4 f fd ["self", "machine", "one", "other", "long"] (spShowsT C) := by
  refine F.ok scTs (fun vs H Q E h => ?_) (fun cdv A outer s H vs Q E hr h => ?_)
  · obtain ⟨x, dx, y, v, M, o, r, n, rfl, _⟩ := h; rfl
  · obtain ⟨x, dx, y, v, M, o, r, n, rfl, hx, hM, ok, hovy, hy, hovo, hovr, ho, hr', kk⟩ := h
    refine ⟨_, (pss_cons (ps_if (PW.pt (pw_or (pt_not (pt_val (pe_call GTx (hr.mono (by decide)) (by rfl) DTx.m DTx.F.kp DTx.b .nil pass0 (pa_cons (pe_ix ix_tup (pv 1) pe_int (fun _ _ => rfl)) (pa_cons (pe_fld (pv 0) rfl) pa_nil))))) (pw_or1 (pt_cmp (pc_neI (pe_op op_add (pe_callB call_len_str (by rfl) T.len PySem.boot_len (pa_cons (pv 2) pa_nil)) (pe_callB call_len_str (by rfl) T.len PySem.boot_len (pa_cons (pe_fld (pv 0) rfl) pa_nil))) (pv 4)))))) (pss_one (ps_ret pe_bl)) pss_nil)
      (pss_one (ps_ret (pe_cmpR op_ne (pe_call GRd (hr.mono (by decide)) (by rfl) DRd.m DRd.F.kp DRd.b .nil pass0 (pa_cons (pv 1) (pa_cons (pe_op op_add_str (pv 2) (pe_fld (pv 0) rfl)) pa_nil))) (pe_call GRd (hr.mono (by decide)) (by rfl) DRd.m DRd.F.kp DRd.b .nil pass0 (pa_cons (pv 1) (pa_cons (pe_op op_add_str (pv 3) (pe_fld (pv 0) rfl)) pa_nil))) (nomark _))))), ?_⟩
    obtain ⟨b, pm, pe, pq, rs, qs, rfl, h1, _⟩ := id hM
    have hyz : y.length ≤ sizeLine := sz_le (by show y.cps.size ≤ _; omega)
    have lo : o.cps.toList.length = o.cps.size := Array.length_toList
    have ly : y.cps.toList.length = y.cps.size := Array.length_toList
    have ovA : ∀ {z : Str}, Over M.letters z → Over M.letters (z ++ y) := fun {z} hz c hc => by
      rw [app_list] at hc
      exact (List.mem_append.mp hc).elim (hz c) (hovy c)
    have szA : ∀ {z : Str}, z.cps.size ≤ 4000 → (z ++ y).cps.size ≤ 10000 := fun {z} hz => by
      have := congrArg List.length (app_list z y)
      rw [List.length_append, Array.length_toList, Array.length_toList, Array.length_toList] at this
      omega
    refine ⟨_, rfl, b, _, _, _, rfl, rfl, SqT.of h1, rfl, _, rfl, x, C, dx, _, _, rfl, hx, cl, nf, rfl, M.letters, y, rfl, by omega, hovy, fun H1 s1 => ⟨_, rfl, iteF ?_⟩⟩
    refine ⟨_, rfl, o, rfl, sz_le (by show o.cps.size ≤ _; omega), _, rfl, x, C, dx, _, _, rfl, s1 _ _ hx, cl, nf, rfl, y, rfl, hyz, _, _, rfl, rfl, _, rfl, _, _, rfl, rfl, _, rfl, ?_⟩
    by_cases hl : o.cps.size + y.cps.size = n
    · refine iteNS (by show ((o.cps.size : Nat) : Int) + ((y.cps.size : Nat) : Int) = ((n : Nat) : Int); omega) ?_
      refine ⟨_, rfl, _, rfl, _, rfl, x, C, dx, _, _, rfl, s1 _ _ hx, cl, nf, rfl, o, y, rfl, rfl, sz_le (by show o.cps.size + y.cps.size ≤ _; omega), .ref b, M, o ++ y, rfl, hM.same s1, ok, ovA hovo, szA ho, fun H2 s2 => ?_⟩
      refine ⟨_, rfl, _, rfl, _, rfl, x, C, dx, _, _, rfl, s2 _ _ (s1 _ _ hx), cl, nf, rfl, r, y, rfl, rfl, sz_le (by show r.cps.size + y.cps.size ≤ _; omega), .ref b, M, r ++ y, rfl, hM.same (s1.trans s2), ok, ovA hovr, szA hr', fun H3 s3 => ?_⟩
      refine ⟨rfl, ?_⟩
      have e := kk H3 (s1.trans (s2.trans s3))
      unfold parts at e
      rw [decide_eq_true (by rw [lo, ly]; exact hl), Bool.true_and] at e
      rw [Mach.has_at, Mach.has_at, app_list, app_list]
      have e5 : ∀ a c : Bool, (!decide (V.bl a = V.bl c)) = decide (a ≠ c) := fun a c => by cases a <;> cases c <;> rfl
      rw [e5]
      exact e
    · refine iteNN (by show ¬ ((o.cps.size : Nat) : Int) + ((y.cps.size : Nat) : Int) = ((n : Nat) : Int); omega) ?_
      have e := kk H1 s1
      unfold parts at e
      rw [decide_eq_false (by rw [lo, ly]; exact hl), Bool.false_and] at e
      exact e
/-! ### Same.shows -/
def spShowsS (C : Addr) : Sp := fun vs H Q _ => ∃ (x dx : Addr) (v : V) (M : Mach) (o r : Str) (n : Nat), vs = [.ref x, v, .str o, .str r, .int ((n : Nat) : Int)] ∧ H x = some (.ins C dx []) ∧ MAt H v M ∧ M.Ok ∧ M.moves.length ≤ 7 ∧ o.cps.size ≤ n ∧ r.cps.size = o.cps.size ∧ Over M.letters o ∧ Over M.letters r ∧ n ≤ 4000 ∧
  ∀ (c : Bool) (H' : Hp), Same H H' → (c = true ↔ ¬ Prt M o.cps.toList r.cps.toList n) → Q (.bl c) H'
abbrev NSs : List Str := ["self", "machine", "one", "other", "long"]
theorem scSs : FnScope NSs ["self", "machine", "one", "other", "long"] (defScope (stN (clsB (top 38)) 0)) := ⟨rfl, rfl, rfl, by decide +kernel, rfl, by decide +kernel, by decide +kernel⟩
theorem ok_showsS {f fSe C : Addr} {fd fdSe : FuncData} (F : Fun K "shows" "Same.shows" (stN (clsB (top 38)) 0) f fd) 
    (DSe : Def K mg "some_ending_parts" (top 31) ["machine", "one", "other", "long"] fSe fdSe) (GSe : FnOk P w K mg base CX0 4 fSe fdSe ["machine", "one", "other", "long"] spSome) : FnOk P w K mg base CX0 5 f fd ["self", "machine", "one", "other", "long"] (spShowsS C) := by
  refine F.ok scSs (fun vs H Q E h => ?_) (fun cdv A outer s H vs Q E hr h => ?_)
  · obtain ⟨x, dx, v, M, o, r, n, rfl, _⟩ := h; rfl
  · obtain ⟨x, dx, v, M, o, r, n, rfl, hx, hM, ok, h7, hon, hro, hovo, hovr, hn, kk⟩ := h
    refine ⟨_, (pss_one (ps_ret (pe_not (pe_call GSe (hr.mono (by decide)) (by rfl) DSe.m DSe.F.kp DSe.b .nil pass0 (pa_cons (pv 1) (pa_cons (pv 2) (pa_cons (pv 3) (pa_cons (pv 4) pa_nil)))))))), ?_⟩
    refine ⟨_, rfl, _, rfl, _, rfl, _, rfl, v, M, o, r, n, rfl, hM, ok, h7, hon, hro, hovo, hovr, by omega, fun c H1 s1 hc => ⟨c, rfl, kk (!c) H1 s1 ?_⟩⟩
    rw [← hc]
    cases c <;> simp
/-! ### first_ending -/
def spFirstE : Sp := fun vs H Q _ => ∃ (v : V) (M : Mach) (o r : Str) (n : Nat), vs = [v, .str o, .str r, .int ((n : Nat) : Int)] ∧ MAt H v M ∧ M.Ok ∧ M.moves.length ≤ 7 ∧ o.cps.size ≤ n ∧ r.cps.size = o.cps.size ∧ Over M.letters o ∧ Over M.letters r ∧ n ≤ 4000 ∧ px M n o.cps.toList r.cps.toList ≠ [] ∧
  ∀ (y : Str) (H' : Hp), Same H H' → (px M n o.cps.toList r.cps.toList).head? = some y.cps.toList → Q (.str y) H'
abbrev NFe : List Str := ["machine", "one", "other", "long", "ending", "parting", "letter"]
theorem scFe : FnScope NFe ["machine", "one", "other", "long"] (defScope (top 41)) := ⟨rfl, rfl, rfl, by decide +kernel, rfl, by decide +kernel, by decide +kernel⟩
set_option maxHeartbeats 2000000 in
theorem ok_firstE {f fSe : Addr} {fd fdSe : FuncData} (D : Def K mg "first_ending" (top 41) ["machine", "one", "other", "long"] f fd) (T : BI mg)
    (DSe : Def K mg "some_ending_parts" (top 31) ["machine", "one", "other", "long"] fSe fdSe) (GSe : FnOk P w K mg base CX0 4 fSe fdSe ["machine", "one", "other", "long"] spSome) : FnOk P w K mg base CX0 5 f fd ["machine", "one", "other", "long"] spFirstE := by
  refine D.F.ok scFe (fun vs H Q E h => ?_) (fun cdv A outer s H vs Q E hr h => ?_)
  · obtain ⟨v, M, o, r, n, rfl, _⟩ := h; rfl
  · obtain ⟨v, M, o, r, n, rfl, hM, ok, h7, hon, hro, hovo, hovr, hn, hne, kk⟩ := h
    refine ⟨_, (pss_cons (ps_set (i := 4) scFe.nd rfl (Or.inr rfl) pe_str)
      (pss_cons (ps_while PassesOwn.never (pt_cmp (pc_lt (pe_op op_add (pe_callB call_len_str (by rfl) T.len PySem.boot_len (pa_cons (pv 1) pa_nil)) (pe_callB call_len_str (by rfl) T.len PySem.boot_len (pa_cons (pv 4) pa_nil))) (pv 3)))
        (pss_cons (ps_setLc (i := 5) (own := [("letter", 6)]) (g := gName 6) (by rfl) scFe.nd rfl rfl (sw_true rfl rfl rfl (by decide +kernel)) (pi_str (pe_ix ix_tup (pv 0) pe_int (fun _ _ => rfl)))
          (blkOk_by (own := [("letter", 6)]) (N := NFe) (sc := (defScope (top 41))) (by decide +kernel))
          (fun _ _ _ _ _ => (pg_name (i := 6) scFe.nd rfl (Or.inl rfl))) (fun _ _ _ _ _ => (pts_one (pt_val (pe_call GSe (hr.mono (by decide)) (by rfl) DSe.m DSe.F.kp DSe.b .nil pass0 (pa_cons (pv 0) (pa_cons (pe_op op_add_str (pe_op op_add_str (pv 1) (pv 4)) (pv 6)) (pa_cons (pe_op op_add_str (pe_op op_add_str (pv 2) (pv 4)) (pv 6)) (pa_cons (pv 3) pa_nil)))))))) (fun _ _ _ _ _ => (pv 6)))
      (pss_one (ps_aug (i := 4) scFe.nd rfl (.inr rfl) (pe_ix ix_list (pv 5) pe_int (fun _ _ => rfl)) ip_cat))))
      (pss_one (ps_ret (pv 4))))), ?_⟩
    have lo : o.cps.toList.length = o.cps.size := Array.length_toList
    have lr : r.cps.toList.length = r.cps.size := Array.length_toList
    obtain ⟨b, pm, pe, pq, rs, qs, rfl, h1, _⟩ := id hM
    have hk3 : M.letters.cps.size ≤ 3 := ok.let_.k3
    refine ⟨fun m σ H' => ∃ (e : Str) (o5 o6 : Option V), σ = [some (.ref b), some (.str o), some (.str r), some (.int ((n : Nat) : Int)), some (.str e), o5, o6] ∧ Same H H' ∧ m = n - (o.cps.size + e.cps.size) ∧ o.cps.size + e.cps.size ≤ n ∧ Over M.letters e ∧
        px M n (o.cps.toList ++ e.cps.toList) (r.cps.toList ++ e.cps.toList) ≠ [] ∧ (px M n o.cps.toList r.cps.toList).head? = ((px M n (o.cps.toList ++ e.cps.toList) (r.cps.toList ++ e.cps.toList)).head?).map (e.cps.toList ++ ·),
      ⟨_, ⟨#[]⟩, none, none, rfl, Same.refl _, rfl, hon, (fun c hc => by cases hc), by simpa using hne, ?_⟩, ?_⟩
    · show _ = Option.map (fun x => [] ++ x) (px M n (o.cps.toList ++ []) (r.cps.toList ++ [])).head?
      rw [List.append_nil, List.append_nil]
      simp
    rintro m σ H1 ⟨e, o5, o6, rfl, s1, rfl, hle, hov, hpx, hhd⟩
    have le : e.cps.toList.length = e.cps.size := Array.length_toList
    refine ⟨_, rfl, o, rfl, sz_le (by show o.cps.size ≤ _; omega), _, rfl, e, rfl, sz_le (by show e.cps.size ≤ _; omega), _, _, rfl, rfl, _, rfl, _, _, rfl, rfl, _, rfl, ?_⟩
    by_cases hlt : o.cps.size + e.cps.size < n
    · refine iteD (by show ((o.cps.size : Nat) : Int) + ((e.cps.size : Nat) : Int) < ((n : Nat) : Int); omega) ?_
      have hq : ∀ c ∈ M.L, decide (px M n (o.cps.toList ++ e.cps.toList ++ [c]) (r.cps.toList ++ e.cps.toList ++ [c]) ≠ []) = true ↔ (px M n (o.cps.toList ++ e.cps.toList ++ [c]) (r.cps.toList ++ e.cps.toList ++ [c])).map (fun w => c :: w) ≠ [] := fun c _ => by
        rw [decide_eq_true_iff]
        constructor
        · intro h z
          exact h (List.map_eq_nil_iff.mp z)
        · intro h z
          exact h (by rw [z]; rfl)
      have hsp := px_split (M := M) (n := n) (o := o.cps.toList ++ e.cps.toList) (r := r.cps.toList ++ e.cps.toList) (by rw [List.length_append]; omega)
      refine ⟨fun σ' H'' => ∃ (c : Nat) (o5' o6' : Option V), σ' = [some (.ref b), some (.str o), some (.str r), some (.int ((n : Nat) : Int)), some (.str (e ++ chr1 c)), o5', o6'] ∧ Same H H'' ∧ c ∈ M.L ∧ (M.L.filter fun c => decide (px M n (o.cps.toList ++ e.cps.toList ++ [c]) (r.cps.toList ++ e.cps.toList ++ [c]) ≠ [])).head? = some c,
        fun σ' H'' ⟨c, o5', o6', h1', h2', h3', h4'⟩ => ⟨_, ?_, e ++ chr1 c, o5', o6', h1', h2', rfl, ?_, ?_, ?_, ?_⟩, ?_⟩
      · have : (e ++ chr1 c).cps.size = e.cps.size + 1 := by
          rw [app_sizeS]; rfl
        rw [this]; omega
      · have : (e ++ chr1 c).cps.size = e.cps.size + 1 := by
          rw [app_sizeS]; rfl
        rw [this]; omega
      · intro d hd
        rw [app_list] at hd
        rcases List.mem_append.mp hd with z | z
        · exact hov d z
        · have : d = c := by simpa using z
          rw [this]; exact h3'
      · rw [app_list]
        show px M n (o.cps.toList ++ (e.cps.toList ++ [c])) (r.cps.toList ++ (e.cps.toList ++ [c])) ≠ []
        rw [← List.append_assoc, ← List.append_assoc]
        have := List.mem_of_mem_head? h4'
        exact of_decide_eq_true (List.mem_filter.mp this).2
      · rw [hhd, hsp, head_flat hq h4', app_list]
        show Option.map _ _ = Option.map (fun x => (e.cps.toList ++ [c]) ++ x) (px M n (o.cps.toList ++ (e.cps.toList ++ [c])) (r.cps.toList ++ (e.cps.toList ++ [c]))).head?
        rw [← List.append_assoc, ← List.append_assoc, List.head?_map, Option.map_map]
        congr 1
        funext x
        show e.cps.toList ++ c :: x = e.cps.toList ++ [c] ++ x
        rw [List.append_assoc]; rfl
      -- parting
      have szA : ∀ {z : Str} (c : Nat), z.cps.size = o.cps.size → ((z ++ e) ++ chr1 c).cps.size = o.cps.size + e.cps.size + 1 := fun {z} c hz => by
        rw [app_sizeS, app_sizeS, hz]; rfl
      have ovA : ∀ {z : Str} {c : Nat}, Over M.letters z → c ∈ M.L → Over M.letters ((z ++ e) ++ chr1 c) := fun {z c} hz hc d hd => by
        rw [app_list, app_list] at hd
        rcases List.mem_append.mp hd with q | q
        · exact (List.mem_append.mp q).elim (hz d) (hov d)
        · have : d = c := by simpa using q
          rw [this]; exact hc
      have hlL : M.L.length = M.letters.cps.size := Array.length_toList
      generalize hqd : (fun c => decide (px M n (o.cps.toList ++ e.cps.toList ++ [c]) (r.cps.toList ++ e.cps.toList ++ [c]) ≠ [])) = q at *
      refine ⟨_, rfl, b, _, _, _, rfl, rfl, SqT.of (s1 _ _ h1), rfl, M.letters, rfl, fun D1 hD1 => lc_it (n := M.letters.cps.size) (fun j H' => Same H1 H' ∧ H' D1 = some (.lst (((M.L.take j).filter q).map fun c => V.str (chr1 c)))) ⟨Same.upd hD1, upd_same⟩ (fun j H' hj _ => hj) (fun H' _ => Nat.le_refl _) ?_ ?_⟩
      · rintro j x H2 H3 hj ⟨sT, eT⟩ ⟨rfl, c, hc, rfl⟩
        rw [← Array.getElem?_toList] at hc
        have hcL : c ∈ M.L := List.mem_of_getElem? hc
        have hlen : (((M.L.take j).filter q).map fun c => V.str (chr1 c)).length ≤ 3 := by
          rw [List.length_map]
          have h1 := List.length_filter_le q (M.L.take j)
          rw [List.length_take] at h1
          omega
        refine ⟨rfl, ?_⟩
        refine ⟨_, rfl, _, rfl, _, rfl, o, e, rfl, rfl, sz_le (by show o.cps.size + e.cps.size ≤ _; omega), _, rfl, o ++ e, chr1 c, rfl, rfl, sz_le (by show (o ++ e).cps.size + 1 ≤ _; rw [app_sizeS]; omega),
          _, rfl, _, rfl, r, e, rfl, rfl, sz_le (by show r.cps.size + e.cps.size ≤ _; omega), _, rfl, r ++ e, chr1 c, rfl, rfl, sz_le (by show (r ++ e).cps.size + 1 ≤ _; rw [app_sizeS]; omega), _, rfl,
          .ref b, M, (o ++ e) ++ chr1 c, (r ++ e) ++ chr1 c, n, rfl, hM.same (s1.trans sT), ok, h7, by rw [szA c rfl]; omega, by rw [szA c rfl, szA c hro], ovA hovo hcL, ovA hovr hcL, by omega, fun k H4 s4 hk => ⟨k, rfl, ?_⟩⟩
        have hqc : q c = k := by
          have e1 : ((o ++ e) ++ chr1 c).cps.toList = o.cps.toList ++ e.cps.toList ++ [c] := by rw [app_list, app_list]
          have e2 : ((r ++ e) ++ chr1 c).cps.toList = r.cps.toList ++ e.cps.toList ++ [c] := by rw [app_list, app_list]
          rw [e1, e2, ← px_prt] at hk
          rw [← hqd]
          cases k with
          | true => exact decide_eq_true (hk.mp rfl)
          | false => exact decide_eq_false fun z => by have := hk.mpr z; cases this
        have e5 : ((M.L.take (j + 1)).filter q) = (M.L.take j).filter q ++ (if k = true then [c] else []) := by
          rw [take_snoc hc, List.filter_append]
          congr 1
          rw [List.filter_cons, hqc]; rfl
        cases k with
        | true =>
          refine iteT ⟨_, rfl, _, s4 _ _ eT, sz_lt (by omega), Same.put (sT.trans s4) hD1, ?_⟩
          rw [e5, List.map_append]; exact upd_same
        | false =>
          refine iteF ⟨sT.trans s4, ?_⟩
          rw [e5]
          show H4 D1 = some (.lst (((M.L.take j).filter q ++ []).map _))
          rw [List.append_nil]; exact s4 _ _ eT
      · rintro H2 ⟨s2, eD⟩
        rw [List.take_of_length_le (by omega)] at eD
        have hne0 : M.L.filter q ≠ [] := fun z => by
          rw [hsp] at hpx
          refine hpx (List.flatMap_eq_nil_iff.mpr fun c hc => ?_)
          by_cases y : (px M n (o.cps.toList ++ e.cps.toList ++ [c]) (r.cps.toList ++ e.cps.toList ++ [c])).map (fun w => c :: w) = []
          · exact y
          · have := (hq c hc).mpr y
            have hm : c ∈ M.L.filter q := List.mem_filter.mpr ⟨hc, by rw [← hqd]; exact this⟩
            rw [z] at hm; cases hm
        obtain ⟨c, l', hcl⟩ := List.exists_cons_of_ne_nil hne0
        have hcm : c ∈ M.L := by
          have : c ∈ M.L.filter q := by rw [hcl]; exact List.mem_cons_self
          exact (List.mem_filter.mp this).1
        rw [hcl] at eD
        have at0 : atI ((c :: l').map fun c => V.str (chr1 c)) 0 = some (V.str (chr1 c)) := atI_nat (j := 0) rfl
        exact ⟨_, rfl, _, rfl, D1, _, _, _, rfl, rfl, SqL.of eD, at0, e, chr1 c, rfl, rfl, sz_le (by show e.cps.size + 1 ≤ _; omega), c, _, _, rfl, s1.trans s2, hcm, by rw [hcl]; rfl⟩
    · refine iteND (by show ¬ ((o.cps.size : Nat) : Int) + ((e.cps.size : Nat) : Int) < ((n : Nat) : Int); omega) ?_
      refine ⟨_, rfl, kk e H1 s1 ?_⟩
      rw [hhd]
      have e0 : px M n (o.cps.toList ++ e.cps.toList) (r.cps.toList ++ e.cps.toList) = [[]] := by
        unfold px at hpx ⊢
        rw [show n - (o.cps.toList ++ e.cps.toList).length = 0 by rw [List.length_append]; omega] at hpx ⊢
        rw [show textsL M.L 0 = [[]] from rfl] at hpx ⊢
        rw [List.filter_cons] at hpx ⊢
        split
        · rfl
        · next h => rw [if_neg h] at hpx; exact absurd rfl hpx
      rw [e0]
      simp
end
end Be

namespace Be
open PySem L2
section
variable {P : Program} {w : World} {K : PySem.W.Frag} {mg : Str → Option Value} {base : Heap}
/-! ### told_apart -/
def spTold (CT CS : Addr) : Sp := fun vs H Q _ => ∃ (v : V) (M : Mach) (o r : Str) (n : Nat), vs = [v, .str o, .str r, .int ((n : Nat) : Int)] ∧ MAt H v M ∧ M.Ok ∧ M.moves.length ≤ 7 ∧ o.cps.size ≤ n ∧ r.cps.size = o.cps.size ∧ Over M.letters o ∧ Over M.letters r ∧ n ≤ 12 ∧
  (∀ (x dx : Addr) (y : Str) (H' : Hp), (px M n o.cps.toList r.cps.toList).head? = some y.cps.toList → Same H H' → H x = none → H' x = some (.ins CT dx [("ending", .str y)]) → Q (.ref x) H') ∧
  (∀ (x dx : Addr) (H' : Hp), px M n o.cps.toList r.cps.toList = [] → Same H H' → H x = none → H' x = some (.ins CS dx []) → Q (.ref x) H')
abbrev NTa : List Str := ["machine", "one", "other", "long"]
theorem scTa : FnScope NTa ["machine", "one", "other", "long"] (defScope (top 42)) := ⟨rfl, rfl, rfl, by decide +kernel, rfl, by decide +kernel, by decide +kernel⟩
set_option maxHeartbeats 2000000 in
theorem ok_told {f fCm fCw fCl fSe fFe fIT CT CS : Addr} {fd fdCm fdCw fdCl fdSe fdFe fdIT : FuncData} (D : Def K mg "told_apart" (top 42) ["machine", "one", "other", "long"] f fd) (T : BI mg) (CL : ∃ t, mg "MOST_LONG" = some (.int 12 t))
    (DCm : Def K mg "check_machine" (top 18) ["machine"] fCm fdCm) (GCm : FnOk P w K mg base CX0 6 fCm fdCm ["machine"] spCheckMachine)
    (DCw : Def K mg "check_two_words" (top 20) ["letters", "one", "other", "most"] fCw fdCw) (GCw : FnOk P w K mg base CX0 3 fCw fdCw ["letters", "one", "other", "most"] spCheckTwo)
    (DCl : Def K mg "check_length" (top 21) ["long", "fewest", "most"] fCl fdCl) (GCl : FnOk P w K mg base CX0 2 fCl fdCl ["long", "fewest", "most"] spCheckLength)
    (DSe : Def K mg "some_ending_parts" (top 31) ["machine", "one", "other", "long"] fSe fdSe) (GSe : FnOk P w K mg base CX0 4 fSe fdSe ["machine", "one", "other", "long"] spSome)
    (DFe : Def K mg "first_ending" (top 41) ["machine", "one", "other", "long"] fFe fdFe) (GFe : FnOk P w K mg base CX0 5 fFe fdFe ["machine", "one", "other", "long"] spFirstE)
    (kT : Kl K mg "Told" CT) (MIT : Mk K CT fIT) (GIT : FnOk P w K mg base CX0 1 fIT fdIT ["self", "ending"] (spInitSn CT "ending")) (bIT : Binds K fdIT ["self", "ending"] [])
    (kS : Kl K mg "Same" CS) (MIS : Mk0 K CS) : FnOk P w K mg base CX0 7 f fd ["machine", "one", "other", "long"] (spTold CT CS) := by
  refine D.F.ok scTa (fun vs H Q E h => ?_) (fun cdv A outer s H vs Q E hr h => ?_)
  · obtain ⟨v, M, o, r, n, rfl, _⟩ := h; rfl
  · obtain ⟨v, M, o, r, n, rfl, hM, ok, h7, hon, hro, hovo, hovr, hn, kT', kS'⟩ := h
    obtain ⟨t_MOST_LONG, e_MOST_LONG⟩ := CL
    refine ⟨_, (pss_cons (ps_expr (pe_call GCm (hr.mono (by decide)) (by rfl) DCm.m DCm.F.kp DCm.b .nil pass0 (pa_cons (pv 0) pa_nil)))
      (pss_cons (ps_expr (pe_call GCw (hr.mono (by decide)) (by rfl) DCw.m DCw.F.kp DCw.b .nil pass0 (pa_cons (pe_ix ix_tup (pv 0) pe_int (fun _ _ => rfl)) (pa_cons (pv 1) (pa_cons (pv 2) (pa_cons (pe_glob (v := .int 12) (by rfl) e_MOST_LONG ⟨_, rfl⟩) pa_nil))))))
      (pss_cons (ps_expr (pe_call GCl (hr.mono (by decide)) (by rfl) DCl.m DCl.F.kp DCl.b .nil pass0 (pa_cons (pv 3) (pa_cons (pe_callB call_len_str (by rfl) T.len PySem.boot_len (pa_cons (pv 1) pa_nil)) (pa_cons (pe_glob (v := .int 12) (by rfl) e_MOST_LONG ⟨_, rfl⟩) pa_nil)))))
      (pss_cons (ps_if (pt_val (pe_call GSe (hr.mono (by decide)) (by rfl) DSe.m DSe.F.kp DSe.b .nil pass0 (pa_cons (pv 0) (pa_cons (pv 1) (pa_cons (pv 2) (pa_cons (pv 3) pa_nil)))))) (pss_one (ps_ret (pe_make MIT GIT (hr.mono (by decide)) (by rfl) kT.m bIT .nil pass0 (pa_cons (pe_call GFe (hr.mono (by decide)) (by rfl) DFe.m DFe.F.kp DFe.b .nil pass0 (pa_cons (pv 0) (pa_cons (pv 1) (pa_cons (pv 2) (pa_cons (pv 3) pa_nil))))) pa_nil)))) pss_nil)
      (pss_one (ps_ret (pe_makeN MIS (by rfl) kS.m))))))), ?_⟩
    obtain ⟨b, pm, pe, pq, rs, qs, rfl, h1, _⟩ := id hM
    refine ⟨_, rfl, .ref b, M, rfl, hM, ok, fun H1 s1 => ?_⟩
    refine ⟨_, rfl, b, _, _, _, rfl, rfl, SqT.of (s1 _ _ h1), rfl, _, rfl, _, rfl, M.letters, o, r, 12, rfl, by omega, by omega, hro.symm, hovo, hovr, fun H2 s2 => ?_⟩
    refine ⟨_, rfl, _, rfl, o, rfl, sz_le (by show o.cps.size ≤ _; omega), _, _, _, rfl, (by show ((o.cps.size : Nat) : Int) ≤ ((n : Nat) : Int); omega), by omega, ?_⟩
    have s02 := s1.trans s2
    refine ⟨_, rfl, _, rfl, _, rfl, _, rfl, .ref b, M, o, r, n, rfl, hM.same s02, ok, h7, hon, hro, hovo, hovr, by omega, fun c H3 s3 hc => ⟨c, rfl, ?_⟩⟩
    have s03 := s02.trans s3
    rw [← px_prt] at hc
    cases c with
    | true =>
      refine iteT ?_
      refine ⟨_, rfl, _, rfl, _, rfl, _, rfl, .ref b, M, o, r, n, rfl, hM.same s03, ok, h7, hon, hro, hovo, hovr, by omega, hc.mp rfl, fun y H4 s4 hy => ?_⟩
      have s04 := s03.trans s4
      refine fun x dx hx hdx nex => ⟨x, dx, y, rfl, upd_same, rfl, ?_⟩
      have s5 : Same H4 (upd (upd (upd H4 dx (.own x)) x (.ins CT dx [])) x (.ins CT dx [("ending", .str y)])) := fun b o e => by
        rw [upd_ne (ne_of_none e hx), upd_ne (ne_of_none e hx), upd_ne (ne_of_none e hdx)]; exact e
      exact kT' x dx y _ hy (s04.trans s5) (s04.free hx) upd_same
    | false =>
      refine iteF ?_
      refine fun x dx hx hdx hne => ?_
      have e0 : px M n o.cps.toList r.cps.toList = [] := Classical.byContradiction fun z => by have := hc.mpr z; cases this
      refine kS' x dx _ e0 (fun a u e => ?_) (s03.free hx) upd_same
      have := s03 _ _ e
      rw [upd_ne (ne_of_none this hx), upd_ne (ne_of_none this hdx)]
      exact this
end
end Be

namespace Be
open PySem L2
def mkS (w : List Nat) : Str := ⟨w.toArray⟩
theorem mkS_list (w : List Nat) : (mkS w).cps.toList = w := by unfold mkS; exact List.toList_toArray
theorem mkS_size (w : List Nat) : (mkS w).cps.size = w.length := by unfold mkS; simp
theorem mkS_app (w : List Nat) (c : Nat) : mkS w ++ (⟨#[c]⟩ : Str) = mkS (w ++ [c]) := by
  have h := app_list (mkS w) ⟨#[c]⟩
  rw [mkS_list] at h
  generalize mkS w ++ (⟨#[c]⟩ : Str) = z at h
  obtain ⟨z⟩ := z
  unfold mkS
  congr 1
  rw [← Array.toArray_toList (xs := z)]
  exact congrArg List.toArray h
abbrev vT (ws : List (List Nat)) : List V := ws.map fun w => V.str (mkS w)
section
variable {P : Program} {w : World} {K : PySem.W.Frag} {mg : Str → Option Value} {base : Heap}
/-! ### _law_texts, all of them in order -/
def spTextsX : Sp := fun vs H Q _ => ∃ (L : Str) (t : Nat), vs = [.str L, .int (t : Int)] ∧ LetOk L ∧ t ≤ 6 ∧
  ∀ (l : Addr) (H' : Hp), Same H H' → H l = none → H' l = some (.lst (vT (textsL L.cps.toList t))) → Q (.ref l) H'
theorem textsL_le {L : Str} (hL : LetOk L) {t : Nat} (ht : t ≤ 6) : (textsL L.cps.toList t).length ≤ 729 := by
  rw [textsL_len, Array.length_toList]
  calc L.cps.size ^ t ≤ 3 ^ t := Nat.pow_le_pow_left hL.k3 t
    _ ≤ 3 ^ 6 := Nat.pow_le_pow_right (by decide) ht
set_option maxHeartbeats 1000000 in
theorem ok_textsX {f : Addr} {fd : FuncData} (D : Def K mg "_law_texts" (top 52) ["_law_letters_here", "_law_long"] f fd) (T : BI mg) : FnOk P w K mg base CX0 1 f fd ["_law_letters_here", "_law_long"] spTextsX := by
  refine D.F.ok sc35 (fun vs H Q E h => ?_) (fun cdv A outer s H vs Q E hr h => ?_)
  · obtain ⟨L, t, rfl, _⟩ := h; rfl
  · obtain ⟨L, t, rfl, hL, ht, kk⟩ := h
    refine ⟨_, (pss_cons (ps_set (i := 2) sc35.nd rfl (Or.inl rfl) (pe_lst (pa_cons pe_str pa_nil)))
      (pss_cons (ps_for PassesOwn.never rfl (pi_range1 (by rfl) T.range (pa_cons (pv 1) pa_nil)) (pg_name (i := 3) sc35.nd rfl (Or.inl rfl))
        (pss_cons (ps_set (i := 4) sc35.nd rfl (Or.inl rfl) (pe_lst pa_nil))
      (pss_cons (ps_for PassesOwn.never rfl (pi_list (pv 2)) (pg_name (i := 5) sc35.nd rfl (Or.inr rfl))
        (pss_one (ps_expr (pe_bm PySem.F.plainAttrs_list PySem.F.slot_list_extend PySem.F.type_list_extend mt_extend (pv 4) (pa_cons (pe_lc (own := [("_law_letter", 6)]) (g := gName 6) (by rfl) sc35.nd (pi_str (pv 0))
          (blkOk_by (own := [("_law_letter", 6)]) (N := NT) (sc := (defScope (top 52))) (by decide +kernel))
          (fun _ _ _ _ _ => (pg_name (i := 6) sc35.nd rfl (Or.inl rfl))) (fun _ _ _ _ _ => pts_nil) (fun _ _ _ _ _ => (pe_op op_add_str (pv 5) (pv 6)))) pa_nil)))))
      (pss_one (ps_set (i := 2) sc35.nd rfl (Or.inl rfl) (pv 4))))))
      (pss_one (ps_ret (pv 2))))), ?_⟩
    have k1 := hL.k1
    have k3 := hL.k3
    have hkL : L.cps.toList.length = L.cps.size := Array.length_toList
    refine ⟨by show 1 ≤ sizeLine; decide, fun l0 hl0 => ?_⟩
    have tt : ((t : Int)).toNat = t := Int.toNat_natCast t
    refine ⟨_, rfl, (t : Int), rfl, by omega, by omega, for_range (lo := 0) (n := ((t : Int)).toNat) (fun i σ H' => ∃ (lf : Addr) (o3 o4 o5 : Option V), σ = [some (.str L), some (.int (t : Int)), some (.ref lf), o3, o4, o5, none] ∧ Same H H' ∧ H lf = none ∧ H' lf = some (.lst (vT (textsL L.cps.toList i))))
      ⟨l0, none, none, none, rfl, Same.upd hl0, hl0, upd_same⟩ ?_ ?_⟩
    · rintro i σ H1 hi ⟨lf, o3, o4, o5, rfl, s1, hlf, e1⟩
      rw [tt] at hi
      have hle : (textsL L.cps.toList i).length ≤ 729 := textsL_le hL (by omega)
      have hle1 : (textsL L.cps.toList (i + 1)).length ≤ 729 := textsL_le hL (by omega)
      have hsz : ∀ y ∈ textsL L.cps.toList i, y.length = i := fun y hy => (textsL_mem hy).1
      have hdef : textsL L.cps.toList (i + 1) = (textsL L.cps.toList i).flatMap fun y => L.cps.toList.map fun c => y ++ [c] := rfl
      generalize textsL L.cps.toList i = ys at *
      -- longer = []
      refine ⟨by show 0 ≤ sizeLine; decide, fun ln hln => ?_⟩
      have nln : lf ≠ ln := ne_of_none e1 hln
      have hln0 : H ln = none := s1.free hln
      have e1' : (upd H1 ln (.lst [])) lf = some (.lst (vT ys)) := by rw [upd_ne nln]; exact e1
      refine ⟨_, rfl, lf, rfl, ⟨_, SqL.of e1'⟩, for_list (K := K) (a := lf) (xs := vT ys) (fun j σ H' => ∃ (o5 : Option V), σ = [some (.str L), some (.int (t : Int)), some (.ref lf), some (.int (0 + (i : Int))), some (.ref ln), o5, none] ∧ Same H H' ∧ H' lf = some (.lst (vT ys)) ∧ H' ln = some (.lst (vT ((ys.take j).flatMap fun y => L.cps.toList.map fun c => y ++ [c]))))
        ⟨o5, rfl, Same.put s1 hln0, e1', upd_same⟩ (fun j σ H' _ ⟨_, _, _, q, _⟩ => SqL.of q) ?_ ?_⟩
      · rintro j v σ H2 hv ⟨o5, rfl, s2, f1, f2⟩
        have hj : j < ys.length := by have := (List.getElem?_eq_some_iff.mp hv).1; simpa using this
        rw [List.getElem?_map, List.getElem?_eq_getElem hj] at hv
        cases Option.some.inj hv
        have hys := hsz _ (List.getElem_mem hj)
        have htk : (ys.take (j + 1)).flatMap (fun y => L.cps.toList.map fun c => y ++ [c]) = (ys.take j).flatMap (fun y => L.cps.toList.map fun c => y ++ [c]) ++ L.cps.toList.map fun c => ys[j] ++ [c] := by
          rw [List.take_succ_eq_append_getElem hj, List.flatMap_append, List.flatMap_singleton]
        have hlen : ((ys.take j).flatMap fun y => L.cps.toList.map fun c => y ++ [c]).length ≤ 3 * j := by
          rw [List.length_flatMap]
          have : (ys.take j).map (fun y => (L.cps.toList.map fun c => y ++ [c]).length) = (ys.take j).map fun _ => L.cps.size := by
            congr 1; funext y; rw [List.length_map, hkL]
          rw [this, List.map_const', List.sum_replicate_nat, List.length_take]
          calc min j ys.length * L.cps.size ≤ j * 3 := Nat.mul_le_mul (Nat.min_le_left _ _) k3
            _ = 3 * j := Nat.mul_comm _ _
        generalize ys[j] = y at hys htk ⊢
        refine ⟨_, rfl, .inl ⟨rfl, _, SqL.of f2⟩, _, rfl, L, rfl, fun Dc hDc => lc_it (n := L.cps.size) (fun m Hz => Tak H2 Dc (vT (L.cps.toList.map fun c => y ++ [c])) m Hz)
          (Tak.start hDc) (fun m Hz hm _ => hm) (fun Hz _ => Nat.le_refl _) ?_ ?_⟩
        · rintro m v Hz Hz' hm hT ⟨rfl, c, hc, rfl⟩
          refine ⟨rfl, yesT ?_⟩
          refine ⟨_, rfl, _, rfl, _, _, rfl, rfl, sz_le (by show (mkS y).cps.size + 1 ≤ _; rw [mkS_size]; omega), ?_⟩
          refine Tak.next hDc hT (Same.refl _) ?_ (by rw [List.length_map, List.length_map]; omega)
          rw [mkS_app, List.getElem?_map, List.getElem?_map, Array.getElem?_toList, hc]; rfl
        · rintro Hz hT
          obtain ⟨sz, q1⟩ := hT.all (by rw [List.length_map, List.length_map]; omega)
          have nlD : ln ≠ Dc := ne_of_none f2 hDc
          refine ⟨ln, Dc, _, _, rfl, rfl, sz _ _ f2, q1, by rw [List.length_map, List.length_map, List.length_map]; exact sz_le (by omega), ?_⟩
          refine ⟨_, rfl, Same.put (s2.trans sz) hln0, by rw [upd_ne nln]; exact sz _ _ f1, ?_⟩
          rw [upd_same, htk]
          show some (HO.lst (vT _ ++ vT _)) = some (HO.lst (vT (_ ++ _)))
          unfold vT
          rw [List.map_append]
      · rintro σ H2 ⟨o5, rfl, s2, f1, f2⟩
        rw [List.length_map, List.take_length] at f2
        exact ⟨_, rfl, ln, _, _, _, rfl, s2, hln0, by rw [hdef]; exact f2⟩
    · rintro σ H1 ⟨lf, o3, o4, o5, rfl, s1, hlf, e1⟩
      rw [tt] at e1
      exact ⟨_, rfl, kk lf H1 s1 hlf e1⟩
/-! ### _law_row -/
end
end Be

/-! fields within comprehensions; an expression read in two ways -/
namespace L2
open PySem PySem.Spec PyProof.Rows
section
variable {X : Cx}
def tEither (t1 t2 : TE) : TE := fun σ H Q => t1 σ H Q ∨ t2 σ H Q
theorem pe_either {e : Expr} {t1 t2 : TE} (h1 : PE X e t1) (h2 : PE X e t2) : PE X e (tEither t1 t2) := fun pins s σ H Q I h => h.elim (h1 pins s σ H Q I) (h2 pins s σ H Q I)
end
end L2

namespace Be
open PySem L2
/-! ### lists of texts, compared -/
def dT (ws : List (List Nat)) : PyData := .list (ws.map fun w => .str (mkS w))
theorem dp_texts {K : PySem.W.Frag} {H : Hp} : ∀ ws : List (List Nat), DpAll K H (vT ws) (ws.map fun w => .str (mkS w))
  | [] => .nil
  | w :: ws => .cons (.str _) (dp_texts ws)
theorem shaped_dT {L : Str} (hL : LetOk L) {ws : List (List Nat)} (h : ∀ w ∈ ws, ∀ c ∈ w, c ∈ L.cps.toList) : SeqAt.shaped (dT ws) = true := by
  unfold SeqAt.shaped dT
  rw [Bool.and_eq_true]
  constructor
  · rw [PyData.canLay0]
    refine lay_all fun d hd => ?_
    obtain ⟨w, hw, rfl⟩ := List.mem_map.mp hd
    rw [PyData.canLay0]
    unfold PyData.strOk
    rw [Array.all_eq_true_iff_forall_mem]
    intro c hc
    have := hL.hi c (h w hw c (by simpa [mkS] using hc))
    simp; omega
  · refine decide_eq_true ?_
    rw [PyData.depth]
    have := dep_all (n := 1) (ds := ws.map fun w => PyData.str (mkS w)) fun d hd => by
      obtain ⟨w, _, rfl⟩ := List.mem_map.mp hd
      simp [PyData.depth]
    omega
theorem eqv_dT (ws : List (List Nat)) : PyData.eqv (dT ws) (.list []) = ws.isEmpty := by
  unfold dT
  cases ws with
  | nil => decide +kernel
  | cons x r => rw [PyData.eqv]; simp [PyData.eqvAll]
theorem px_over {M : Mach} {n : Nat} {o r : List Nat} : ∀ w ∈ px M n o r, ∀ c ∈ w, c ∈ M.L := fun w hw => (px_mem.mp hw).2.1
theorem neb (a c : Bool) : (!decide (V.bl a = V.bl c)) = decide (a ≠ c) := by cases a <;> cases c <;> rfl
section
variable {P : Program} {w : World} {K : PySem.W.Frag} {mg : Str → Option Value} {base : Heap}
/-! ### _law_ends -/
def spLEnds : Sp := fun vs H Q _ => ∃ (v : V) (M : Mach) (o r : Str) (n : Nat), vs = [v, .str o, .str r, .int ((n : Nat) : Int)] ∧ MAt H v M ∧ M.Ok ∧ Over M.letters o ∧ Over M.letters r ∧ o.cps.size ≤ n ∧ n ≤ o.cps.size + 6 ∧ r.cps.size = o.cps.size ∧ n ≤ 4000 ∧
  ∀ (l : Addr) (H' : Hp), Same H H' → H l = none → H' l = some (.lst (vT (px M n o.cps.toList r.cps.toList))) → Q (.ref l) H'
abbrev NEn : List Str := ["_law_machine_here", "_law_one", "_law_other", "_law_long", "_law_found", "_law_ending"]
theorem scEn : FnScope NEn ["_law_machine_here", "_law_one", "_law_other", "_law_long"] (defScope (top 54)) := ⟨rfl, rfl, rfl, by decide +kernel, rfl, by decide +kernel, by decide +kernel⟩
set_option maxHeartbeats 2000000 in
theorem ok_lends {f fLt fLh : Addr} {fd fdLt fdLh : FuncData} (D : Def K mg "_law_ends" (top 54) ["_law_machine_here", "_law_one", "_law_other", "_law_long"] f fd) (T : BI mg)
    (DLt : Def K mg "_law_texts" (top 52) ["_law_letters_here", "_law_long"] fLt fdLt) (GLt : FnOk P w K mg base CX0 1 fLt fdLt ["_law_letters_here", "_law_long"] spTextsX)
    (DLh : Def K mg "_law_has" (top 51) ["_law_machine_here", "_law_word", "_law_state"] fLh fdLh) (GLh : FnOk P w K mg base CX0 1 fLh fdLh ["_law_machine_here", "_law_word", "_law_state"] spLHas) : FnOk P w K mg base CX0 2 f fd ["_law_machine_here", "_law_one", "_law_other", "_law_long"] spLEnds := by
  refine D.F.ok scEn (fun vs H Q E h => ?_) (fun cdv A outer s H vs Q E hr h => ?_)
  · obtain ⟨v, M, o, r, n, rfl, _⟩ := h; rfl
  · obtain ⟨v, M, o, r, n, rfl, hM, ok, hovo, hovr, hon, hn6, hro, hn, kk⟩ := h
    refine ⟨_, (pss_cons (ps_set (i := 4) scEn.nd rfl (Or.inl rfl) (pe_lst pa_nil))
      (pss_cons (ps_for PassesOwn.never rfl (pi_list (pe_call GLt (hr.mono (by decide)) (by rfl) DLt.m DLt.F.kp DLt.b .nil pass0 (pa_cons (pe_ix ix_tup (pv 0) pe_int (fun _ _ => rfl)) (pa_cons (pe_op op_sub (pv 3) (pe_callB call_len_str (by rfl) T.len PySem.boot_len (pa_cons (pv 1) pa_nil))) pa_nil)))) (pg_name (i := 5) scEn.nd rfl (Or.inl rfl))
        (pss_one (ps_if (pt_cmpR op_ne (pe_call GLh (hr.mono (by decide)) (by rfl) DLh.m DLh.F.kp DLh.b .nil pass0 (pa_cons (pv 0) (pa_cons (pe_op op_add_str (pv 1) (pv 5)) (pa_cons pe_int pa_nil)))) (pe_call GLh (hr.mono (by decide)) (by rfl) DLh.m DLh.F.kp DLh.b .nil pass0 (pa_cons (pv 0) (pa_cons (pe_op op_add_str (pv 2) (pv 5)) (pa_cons pe_int pa_nil)))) (nomark _)) (pss_one (ps_expr (pe_bm PySem.F.plainAttrs_list PySem.F.slot_list_append PySem.F.type_list_append mt_append (pv 4) (pa_cons (pv 5) pa_nil)))) pss_nil)))
      (pss_one (ps_ret (pv 4))))), ?_⟩
    have lo : o.cps.toList.length = o.cps.size := Array.length_toList
    have lr : r.cps.toList.length = r.cps.size := Array.length_toList
    obtain ⟨b, pm, pe, pq, rs, qs, rfl, h1, _⟩ := id hM
    refine ⟨by show 0 ≤ sizeLine; decide, fun l hl => ?_⟩
    have s1 : Same H (upd H l (.lst [])) := Same.upd hl
    have e1 : (upd H l (.lst [])) l = some (.lst []) := upd_same
    generalize upd H l (.lst []) = H1 at s1 e1 ⊢
    refine ⟨_, rfl, b, _, _, _, rfl, rfl, SqT.of (s1 _ _ h1), rfl, _, rfl, _, rfl, o, rfl, sz_le (by show o.cps.size ≤ _; omega), _, _, rfl, rfl, M.letters, n - o.cps.size, ?_, ok.let_, by omega, fun l2 H2 s2 hl2 e2 => ?_⟩
    · show [V.str M.letters, V.int (((n : Nat) : Int) - ((o.cps.size : Nat) : Int))] = _
      rw [show ((n : Nat) : Int) - ((o.cps.size : Nat) : Int) = ((n - o.cps.size : Nat) : Int) by omega]
    have hlen : (textsL M.L (n - o.cps.size)).length ≤ 729 := textsL_le ok.let_ (by omega)
    have hin : ∀ y ∈ textsL M.L (n - o.cps.size), y.length = n - o.cps.size ∧ ∀ c ∈ y, c ∈ M.L := fun y hy => textsL_mem hy
    have hpx : px M n o.cps.toList r.cps.toList = (textsL M.L (n - o.cps.size)).filter fun w => decide (M.hasAt 0 (o.cps.toList ++ w) ≠ M.hasAt 0 (r.cps.toList ++ w)) := by unfold px; rw [lo]
    rw [hpx] at kk
    generalize hTx : textsL M.L (n - o.cps.size) = Tx at *
    generalize hqd : (fun w => decide (M.hasAt 0 (o.cps.toList ++ w) ≠ M.hasAt 0 (r.cps.toList ++ w))) = q at *
    refine ⟨l2, rfl, ⟨_, SqL.of e2⟩, for_list (K := K) (a := l2) (xs := vT Tx) (fun i σ H' => ∃ o5, σ = [some (.ref b), some (.str o), some (.str r), some (.int ((n : Nat) : Int)), some (.ref l), o5] ∧ Same H H' ∧ H' l2 = some (.lst (vT Tx)) ∧ H' l = some (.lst (vT ((Tx.take i).filter q)))) ⟨none, rfl, s1.trans s2, e2, s2 _ _ e1⟩ (fun i σ H' _ h => by obtain ⟨_, _, _, h, _⟩ := h; exact SqL.of h) ?_ ?_⟩
    · rintro i v σ H3 hv ⟨o5, rfl, s3, e3, f3⟩
      have hi : i < Tx.length := by have := (List.getElem?_eq_some_iff.mp hv).1; simpa using this
      have exi : Tx[i]? = some (Tx[i]'hi) := List.getElem?_eq_getElem hi
      obtain ⟨hy1, hy2⟩ := hin _ (List.getElem_mem hi)
      rw [List.getElem?_map, exi] at hv
      cases Option.some.inj hv
      generalize Tx[i]'hi = y at exi hy1 hy2
      have hyS : (mkS y).cps.toList = y := by simp [mkS]
      have hyz : (mkS y).cps.size = y.length := by simp [mkS]
      have ovA : ∀ {z : Str}, Over M.letters z → Over M.letters (z ++ mkS y) := fun {z} hz c hc => by
        rw [app_list, hyS] at hc
        exact (List.mem_append.mp hc).elim (hz c) (hy2 c)
      have szA : ∀ {z : Str}, z.cps.size ≤ 4000 → (z ++ mkS y).cps.size ≤ 10000 := fun {z} hz => by rw [app_sizeS, hyz]; omega
      refine ⟨_, rfl, _, rfl, _, rfl, o, mkS y, rfl, rfl, sz_le (by show o.cps.size + (mkS y).cps.size ≤ _; rw [hyz]; omega), .ref b, M, o ++ mkS y, 0, rfl, hM.same s3, ok, ovA hovo, szA (by omega), ok.n1, _, rfl, _, rfl, _, rfl, r, mkS y, rfl, rfl, sz_le (by show r.cps.size + (mkS y).cps.size ≤ _; rw [hyz]; omega), .ref b, M, r ++ mkS y, 0, rfl, hM.same s3, ok, ovA hovr, szA (by omega), ok.n1, rfl, _, rfl, ?_⟩
      have hne : l2 ≠ l := fun z => by rw [z, s1.free hl2 |> fun _ => e1] at hl2; cases hl2
      have eq : (!decide (V.bl (M.hasAt 0 (o ++ mkS y).cps.toList) = V.bl (M.hasAt 0 (r ++ mkS y).cps.toList))) = q y := by
        rw [neb, app_list, app_list, hyS, ← hqd]
      rw [eq]
      have e5 : (Tx.take (i + 1)).filter q = (Tx.take i).filter q ++ (if q y = true then [y] else []) := by
        rw [take_snoc exi, List.filter_append]
        congr 1
        rw [List.filter_cons]; rfl
      cases hq : q y with
      | true =>
        refine iteT ?_
        refine ⟨_, rfl, .inl ⟨rfl, _, SqL.of f3⟩, _, rfl, l, _, _, rfl, rfl, f3, sz_lt (by rw [List.length_map]; have := List.length_filter_le q (Tx.take i); rw [List.length_take] at this; omega), some (.str (mkS y)), rfl, Same.put s3 hl, by rw [upd_ne hne]; exact e3, ?_⟩
        rw [e5, hq, upd_same, if_pos rfl]
        simp [vT]
      | false =>
        refine iteF ⟨some (.str (mkS y)), rfl, s3, e3, ?_⟩
        rw [e5, hq]
        simpa using f3
    · rintro σ H3 ⟨o5, rfl, s3, e3, f3⟩
      rw [List.length_map, List.take_of_length_le (Nat.le_refl _)] at f3
      exact ⟨_, rfl, kk l H3 s3 hl f3⟩
/-! ### _law_due -/
/-- what an answer tells -/
inductive TRd (H : Hp) (CT CS : Addr) (x : Addr) (M : Mach) (o r : List Nat) (n : Nat) : (Bool → Prop) → Prop
  | told {dx : Addr} {y : Str} (hx : H x = some (.ins CT dx [("ending", .str y)])) (hy : Over M.letters y) (hz : y.cps.size ≤ 4000) : TRd H CT CS x M o r n (fun b => b = parts M o r n y.cps.toList)
  | same {dx : Addr} (hx : H x = some (.ins CS dx [])) : TRd H CT CS x M o r n (fun b => b = true ↔ ¬ Prt M o r n)
def spDueT (CT CS : Addr) : Sp := fun vs H Q _ => ∃ (v : V) (x : Addr) (M : Mach) (o r : Str) (n : Nat) (B : Bool → Prop), vs = [v, .str o, .str r, .int ((n : Nat) : Int), .ref x] ∧ MAt H v M ∧ M.Ok ∧ Over M.letters o ∧ Over M.letters r ∧ o.cps.size ≤ n ∧ r.cps.size = o.cps.size ∧ n ≤ 4000 ∧
  TRd H CT CS x M o.cps.toList r.cps.toList n B ∧ (n ≤ o.cps.size + 6 ∨ ∃ dx y, H x = some (.ins CT dx [("ending", .str y)])) ∧ ∀ b H', B b → Same H H' → Q (.bl b) H'
abbrev NDu : List Str := ["_law_machine_here", "_law_one", "_law_other", "_law_long", "_law_found"]
theorem scDu : FnScope NDu ["_law_machine_here", "_law_one", "_law_other", "_law_long", "_law_found"] (defScope (top 55)) := ⟨rfl, rfl, rfl, by decide +kernel, rfl, by decide +kernel, by decide +kernel⟩
set_option maxHeartbeats 2000000 in
theorem ok_dueT {f fEn fLh CT CS : Addr} {fd fdEn fdLh : FuncData} (D : Def K mg "_law_due" (top 55) ["_law_machine_here", "_law_one", "_law_other", "_law_long", "_law_found"] f fd) (T : BI mg)
    (kT : Kl K mg "Told" CT) (kS : Kl K mg "Same" CS) (nT : NoAttr K CT "ending") (kitTS : PySem.W.kitOne K (.ref CT) (.ref CS) = some false) (kitSS : PySem.W.kitOne K (.ref CS) (.ref CS) = some true)
    (DEn : Def K mg "_law_ends" (top 54) ["_law_machine_here", "_law_one", "_law_other", "_law_long"] fEn fdEn) (GEn : FnOk P w K mg base CX0 2 fEn fdEn ["_law_machine_here", "_law_one", "_law_other", "_law_long"] spLEnds)
    (DLh : Def K mg "_law_has" (top 51) ["_law_machine_here", "_law_word", "_law_state"] fLh fdLh) (GLh : FnOk P w K mg base CX0 1 fLh fdLh ["_law_machine_here", "_law_word", "_law_state"] spLHas) : FnOk P w K mg base CX0 3 f fd ["_law_machine_here", "_law_one", "_law_other", "_law_long", "_law_found"] (spDueT CT CS) := by
  refine D.F.ok scDu (fun vs H Q E h => ?_) (fun cdv A outer s H vs Q E hr h => ?_)
  · obtain ⟨v, x, M, o, r, n, B, rfl, _⟩ := h; rfl
  · obtain ⟨v, x, M, o, r, n, B, rfl, hM, ok, hovo, hovr, hon, hro, hn, hT, h6, kk⟩ := h
    refine ⟨_, (pss_cons (ps_if (pt_val (pe_callB call_isinstC (by rfl) T.isinstance (by decide +kernel) (pa_cons (pv 4) (pa_cons (pe_glob (v := .ref CS) (by rfl) kS.m rfl) pa_nil)))) (pss_one (ps_ret (pe_cmpR (op_eqD hr.units) (pe_call GEn (hr.mono (by decide)) (by rfl) DEn.m DEn.F.kp DEn.b .nil pass0 (pa_cons (pv 0) (pa_cons (pv 1) (pa_cons (pv 2) (pa_cons (pv 3) pa_nil))))) (pe_lst pa_nil) (nomark _)))) pss_nil)
      (pss_cons (ps_if (pt_cmp (pc_neI (pe_op op_add (pe_callB call_len_str (by rfl) T.len PySem.boot_len (pa_cons (pv 1) pa_nil)) (pe_callB call_len_str (by rfl) T.len PySem.boot_len (pa_cons (pe_fld (pv 4) rfl) pa_nil))) (pv 3))) (pss_one (ps_ret pe_bl)) pss_nil)
      (pss_one (ps_ret (pe_cmpR op_ne (pe_call GLh (hr.mono (by decide)) (by rfl) DLh.m DLh.F.kp DLh.b .nil pass0 (pa_cons (pv 0) (pa_cons (pe_op op_add_str (pv 1) (pe_fld (pv 4) rfl)) (pa_cons pe_int pa_nil)))) (pe_call GLh (hr.mono (by decide)) (by rfl) DLh.m DLh.F.kp DLh.b .nil pass0 (pa_cons (pv 0) (pa_cons (pe_op op_add_str (pv 2) (pe_fld (pv 4) rfl)) (pa_cons pe_int pa_nil)))) (nomark _)))))), ?_⟩
    have lo : o.cps.toList.length = o.cps.size := Array.length_toList
    obtain ⟨b, pm, pe, pq, rs, qs, rfl, h1, _⟩ := id hM
    cases hT with
    | @told dx y hx hovy hy =>
      have ly : y.cps.toList.length = y.cps.size := Array.length_toList
      have ovA : ∀ {z : Str}, Over M.letters z → Over M.letters (z ++ y) := fun {z} hz c hc => by
        rw [app_list] at hc
        exact (List.mem_append.mp hc).elim (hz c) (hovy c)
      have szA : ∀ {z : Str}, z.cps.size ≤ 4000 → (z ++ y).cps.size ≤ 10000 := fun {z} hz => by rw [app_sizeS]; omega
      refine ⟨_, rfl, .ref x, CS, _, false, rfl, kT.ty hx, kitTS, _, rfl, iteF ?_⟩
      refine ⟨_, rfl, o, rfl, sz_le (by show o.cps.size ≤ _; omega), _, rfl, x, CT, dx, _, _, rfl, hx, kT.cl, nT, rfl, y, rfl, sz_le (by show y.cps.size ≤ _; omega), _, _, rfl, rfl, _, rfl, _, _, rfl, rfl, _, rfl, ?_⟩
      by_cases hl : o.cps.size + y.cps.size = n
      · refine iteNS (by show ((o.cps.size : Nat) : Int) + ((y.cps.size : Nat) : Int) = ((n : Nat) : Int); omega) ?_
        refine ⟨_, rfl, _, rfl, _, rfl, x, CT, dx, _, _, rfl, hx, kT.cl, nT, rfl, o, y, rfl, rfl, sz_le (by show o.cps.size + y.cps.size ≤ _; omega), .ref b, M, o ++ y, 0, rfl, hM, ok, ovA hovo, szA (by omega), ok.n1, ?_⟩
        refine ⟨_, rfl, _, rfl, _, rfl, x, CT, dx, _, _, rfl, hx, kT.cl, nT, rfl, r, y, rfl, rfl, sz_le (by show r.cps.size + y.cps.size ≤ _; omega), .ref b, M, r ++ y, 0, rfl, hM, ok, ovA hovr, szA (by omega), ok.n1, ?_⟩
        refine ⟨rfl, ?_⟩
        rw [neb, app_list, app_list]
        refine kk _ H ?_ (Same.refl _)
        unfold parts
        rw [decide_eq_true (by rw [lo, ly]; exact hl), Bool.true_and]
      · refine iteNN (by show ¬ ((o.cps.size : Nat) : Int) + ((y.cps.size : Nat) : Int) = ((n : Nat) : Int); omega) ?_
        refine kk _ H ?_ (Same.refl _)
        unfold parts
        rw [decide_eq_false (by rw [lo, ly]; exact hl), Bool.false_and]
    | @same dx hx =>
      have hn6 : n ≤ o.cps.size + 6 := by
        rcases h6 with h | ⟨dx', y, h⟩
        · exact h
        · rw [hx] at h
          injection h with h
          injection h with _ _ h
          cases h
      refine ⟨_, rfl, .ref x, CS, _, true, rfl, kS.ty hx, kitSS, _, rfl, iteT ?_⟩
      refine ⟨_, rfl, _, rfl, _, rfl, _, rfl, .ref b, M, o, r, n, rfl, hM, ok, hovo, hovr, hon, hn6, hro, hn, fun l H1 s1 hl e1 => ?_⟩
      refine ⟨by show 0 ≤ sizeLine; decide, fun l2 hl2 => ?_⟩
      have s2 : Same H1 (upd H1 l2 (.lst [])) := Same.upd hl2
      have e2 : (upd H1 l2 (.lst [])) l2 = some (.lst []) := upd_same
      generalize upd H1 l2 (.lst []) = H2 at s2 e2 ⊢
      refine ⟨dT (px M n o.cps.toList r.cps.toList), .list [], .lst (SqL.of (s2 _ _ e1)) (dp_texts _), .lst (SqL.of e2) .nil, shaped_dT ok.let_ px_over, by decide +kernel, ?_⟩
      rw [eqv_dT]
      refine kk _ H2 ?_ (s1.trans s2)
      rw [← px_prt]
      cases px M n o.cps.toList r.cps.toList <;> simp
end
end Be

/-! x is True, x is not False: of truths. -/
namespace L2
open PySem PySem.Spec PyProof.Rows
theorem op_isnot_bl {X : Cx} : OpR X (compareOp .IsNot) (fun x y H Q => ∃ a b : Bool, x = .bl a ∧ y = .bl b ∧ Q (.bl (!decide (a = b))) H) := by
  intro pins s σ H x y v u Q I rx ry h
  obtain ⟨a, b, rfl, rfl, q⟩ := h
  cases rx
  cases ry
  exact wpAny_isNot_plain (by cases a <;> cases b <;> rfl) (fin_bl I q (by cases a <;> cases b <;> rfl))
end L2

namespace Be
open PySem L2
/-- beginnings beside, of as many letters -/
def BesT (H : Hp) (L : Str) (m : Nat) (bs : List V) (ps : List (Str × Str)) : Prop := Paired (fun b p => ∃ q, b = V.ref q ∧ H q = some (.tup [.str p.1, .str p.2]) ∧ Over L p.1 ∧ Over L p.2 ∧ p.1.cps.size = m ∧ p.2.cps.size = m) bs ps
section
variable {P : Program} {w : World} {K : PySem.W.Frag} {mg : Str → Option Value} {base : Heap}
/-! ### _law_right -/
def spRightT : Sp := fun vs H Q _ => ∃ (v : V) (a : Addr) (M : Mach) (o r : Str) (n : Nat) (bs : List V) (ps : List (Str × Str)), vs = [v, .str o, .str r, .int ((n : Nat) : Int), .ref a] ∧ MAt H v M ∧ M.Ok ∧ M.moves.length ≤ 7 ∧ o.cps.size ≤ n ∧ n ≤ 6 ∧ r.cps.size = o.cps.size ∧ Over M.letters o ∧ Over M.letters r ∧ H a = some (.lst bs) ∧ BesT H M.letters o.cps.size bs ps ∧ ∀ H', Same H H' → Q (.bl true) H'
abbrev NRi : List Str := ["_law_machine_here", "_law_one", "_law_other", "_law_long", "_law_besides", "_law_handed", "_law_ends_here", "_law_again", "_law_found", "_law_sorts", "_law_mine", "_law_theirs", "_law_due_here"]
theorem scRi : FnScope NRi ["_law_machine_here", "_law_one", "_law_other", "_law_long", "_law_besides"] (defScope (top 56)) := ⟨rfl, rfl, rfl, by decide +kernel, rfl, by decide +kernel, by decide +kernel⟩
set_option maxHeartbeats 8000000 in
theorem ok_rightT {f fCp fEn fTa fDu fSy fST fSS CT CS CAn CAl CAp CF CE : Addr} {fd fdCp fdEn fdTa fdDu fdSy fdST fdSS : FuncData} (D : Def K mg "_law_right" (top 56) ["_law_machine_here", "_law_one", "_law_other", "_law_long", "_law_besides"] f fd) (T : BI mg)
    (kT : Kl K mg "Told" CT) (kS : Kl K mg "Same" CS) (kAn : Kl K mg "Answer" CAn) (kAl : Kl K mg "Alike" CAl) (kAp : Kl K mg "Apart" CAp) (kF : Kl K mg "First" CF) (kE : Kl K mg "Empty" CE)
    (kitTAn : PySem.W.kitOne K (.ref CT) (.ref CAn) = some true) (kitTT : PySem.W.kitOne K (.ref CT) (.ref CT) = some true) (kitTS : PySem.W.kitOne K (.ref CT) (.ref CS) = some false) (kitTAl : PySem.W.kitOne K (.ref CT) (.ref CAl) = some false) (kitTAp : PySem.W.kitOne K (.ref CT) (.ref CAp) = some false) (kitTF : PySem.W.kitOne K (.ref CT) (.ref CF) = some false) (kitTE : PySem.W.kitOne K (.ref CT) (.ref CE) = some false)
    (kitSAn : PySem.W.kitOne K (.ref CS) (.ref CAn) = some true) (kitST : PySem.W.kitOne K (.ref CS) (.ref CT) = some false) (kitSS : PySem.W.kitOne K (.ref CS) (.ref CS) = some true) (kitSAl : PySem.W.kitOne K (.ref CS) (.ref CAl) = some false) (kitSAp : PySem.W.kitOne K (.ref CS) (.ref CAp) = some false) (kitSF : PySem.W.kitOne K (.ref CS) (.ref CF) = some false) (kitSE : PySem.W.kitOne K (.ref CS) (.ref CE) = some false)
    (nT : NoAttr K CT "ending")
    (mST : Meth K CT "shows" fST) (GST : FnOk P w K mg base CX0 4 fST fdST ["self", "machine", "one", "other", "long"] (spShowsT CT)) (bST : Binds K fdST ["self", "machine", "one", "other", "long"] [])
    (mSS : Meth K CS "shows" fSS) (GSS : FnOk P w K mg base CX0 5 fSS fdSS ["self", "machine", "one", "other", "long"] (spShowsS CS)) (bSS : Binds K fdSS ["self", "machine", "one", "other", "long"] [])
    (DCp : Def K mg "_law_copy" (top 50) ["_law_machine_here"] fCp fdCp) (GCp : FnOk P w K mg base CX0 1 fCp fdCp ["_law_machine_here"] spCopy)
    (DEn : Def K mg "_law_ends" (top 54) ["_law_machine_here", "_law_one", "_law_other", "_law_long"] fEn fdEn) (GEn : FnOk P w K mg base CX0 2 fEn fdEn ["_law_machine_here", "_law_one", "_law_other", "_law_long"] spLEnds)
    (DTa : Def K mg "told_apart" (top 42) ["machine", "one", "other", "long"] fTa fdTa) (GTa : FnOk P w K mg base CX0 7 fTa fdTa ["machine", "one", "other", "long"] (spTold CT CS))
    (DDu : Def K mg "_law_due" (top 55) ["_law_machine_here", "_law_one", "_law_other", "_law_long", "_law_found"] fDu fdDu) (GDu : FnOk P w K mg base CX0 3 fDu fdDu ["_law_machine_here", "_law_one", "_law_other", "_law_long", "_law_found"] (spDueT CT CS))
    (DSy : Def K mg "_law_says" (top 47) ["_law_said", "_law_due_here"] fSy fdSy) (GSy : FnOk P w K mg base CX0 1 fSy fdSy ["_law_said", "_law_due_here"] spSays) : FnOk P w K mg base CX0 8 f fd ["_law_machine_here", "_law_one", "_law_other", "_law_long", "_law_besides"] spRightT := by
  refine D.F.ok scRi (fun vs H Q E h => ?_) (fun cdv A outer s H vs Q E hr h => ?_)
  · obtain ⟨v, a, M, o, r, n, bs, ps, rfl, _⟩ := h; rfl
  · obtain ⟨v, a, M, o, r, n, bs, ps, rfl, hM, ok, h7, hon, hn6, hro, hovo, hovr, ha, hB, kk⟩ := h
    refine ⟨_, (pss_cons (ps_par (by rfl) scRi.nd (i := 5) (j := 6) rfl rfl (by decide) rfl rfl (pa_cons (pe_call GCp (hr.mono (by decide)) (by rfl) DCp.m DCp.F.kp DCp.b .nil pass0 (pa_cons (pv 0) pa_nil)) (pa_cons (pe_call GEn (hr.mono (by decide)) (by rfl) DEn.m DEn.F.kp DEn.b .nil pass0 (pa_cons (pv 0) (pa_cons (pv 1) (pa_cons (pv 2) (pa_cons (pv 3) pa_nil))))) pa_nil)) (by rfl))
      (pss_cons (ps_for PassesOwn.never rfl (pi_range1 (by rfl) T.range (pa_cons pe_int pa_nil)) (pg_name (i := 7) scRi.nd rfl (Or.inl rfl))
        (pss_cons (ps_set (i := 8) scRi.nd rfl (Or.inl rfl) (pe_call GTa (hr.mono (by decide)) (by rfl) DTa.m DTa.F.kp DTa.b .nil pass0 (pa_cons (pv 5) (pa_cons (pv 1) (pa_cons (pv 2) (pa_cons (pv 3) pa_nil))))))
      (pss_cons (ps_set (i := 9) scRi.nd rfl (Or.inl rfl) (pe_lst (pa_cons (pe_callB call_isinstC (by rfl) T.isinstance (by decide +kernel) (pa_cons (pv 8) (pa_cons (pe_glob (v := .ref CT) (by rfl) kT.m rfl) pa_nil))) (pa_cons (pe_callB call_isinstC (by rfl) T.isinstance (by decide +kernel) (pa_cons (pv 8) (pa_cons (pe_glob (v := .ref CS) (by rfl) kS.m rfl) pa_nil))) pa_nil))))
      (pss_cons (ps_if (PW.pt (pw_or (pt_not (pt_val (pe_callB call_isinstC (by rfl) T.isinstance (by decide +kernel) (pa_cons (pv 8) (pa_cons (pe_glob (v := .ref CAn) (by rfl) kAn.m rfl) pa_nil))))) (pw_or (pt_cmpR (op_neD hr.units) (pv 9) (pe_lst (pa_cons (pe_cmpR (op_neD hr.units) (pv 6) (pe_lst pa_nil) (nomark _)) (pa_cons (pe_cmpR (op_eqD hr.units) (pv 6) (pe_lst pa_nil) (nomark _)) pa_nil))) (nomark _)) (pw_or1 (pt_cmpR (op_neD hr.units) (pv 5) (pv 0) (nomark _)))))) (pss_one (ps_ret pe_bl)) pss_nil)
      (pss_cons (ps_if (PW.pt (pw_or (pt_val (pe_callB call_isinstC (by rfl) T.isinstance (by decide +kernel) (pa_cons (pv 8) (pa_cons (pe_glob (v := .ref CAl) (by rfl) kAl.m rfl) pa_nil)))) (pw_or (pt_val (pe_callB call_isinstC (by rfl) T.isinstance (by decide +kernel) (pa_cons (pv 8) (pa_cons (pe_glob (v := .ref CAp) (by rfl) kAp.m rfl) pa_nil)))) (pw_or (pt_val (pe_callB call_isinstC (by rfl) T.isinstance (by decide +kernel) (pa_cons (pv 8) (pa_cons (pe_glob (v := .ref CF) (by rfl) kF.m rfl) pa_nil)))) (pw_or1 (pt_val (pe_callB call_isinstC (by rfl) T.isinstance (by decide +kernel) (pa_cons (pv 8) (pa_cons (pe_glob (v := .ref CE) (by rfl) kE.m rfl) pa_nil))))))))) (pss_one (ps_ret pe_bl)) pss_nil)
      (pss_cons (ps_if (PW.pt (pw_or (PW.pt (pw_and (pt_cmpR (op_neD hr.units) (pv 6) (pe_lst pa_nil) (nomark _)) (pw_and1 (pt_cmpR op_ne (pe_fld (pv 8) rfl) (pe_ix ix_list (pv 6) pe_int (fun _ _ => rfl)) (nomark _))))) (pw_or1 (pt_cmpR op_isnot_bl (pe_either (pe_meth (pv 8) kT.cl mST GST (hr.mono (by decide)) bST .nil pass0 (pa_cons (pv 0) (pa_cons (pv 1) (pa_cons (pv 2) (pa_cons (pv 3) pa_nil))))) (pe_meth (pv 8) kS.cl mSS GSS (hr.mono (by decide)) bSS .nil pass0 (pa_cons (pv 0) (pa_cons (pv 1) (pa_cons (pv 2) (pa_cons (pv 3) pa_nil)))))) pe_bl (nomark _))))) (pss_one (ps_ret pe_bl)) pss_nil)
      (pss_one (ps_for PassesOwn.never rfl (pi_list (pv 4)) (pg_tup (by rfl) (pgs_cons (pg_name (i := 10) scRi.nd rfl (Or.inl rfl)) (pgs_cons (pg_name (i := 11) scRi.nd rfl (Or.inl rfl)) pgs_nil)))
        (pss_cons (ps_set (i := 12) scRi.nd rfl (Or.inl rfl) (pe_call GDu (hr.mono (by decide)) (by rfl) DDu.m DDu.F.kp DDu.b .nil pass0 (pa_cons (pv 0) (pa_cons (pv 10) (pa_cons (pv 11) (pa_cons (pv 3) (pa_cons (pv 8) pa_nil)))))))
      (pss_one (ps_if (pt_not (pt_val (pe_call GSy (hr.mono (by decide)) (by rfl) DSy.m DSy.F.kp DSy.b .nil pass0 (pa_cons (pe_either (pe_meth (pv 8) kT.cl mST GST (hr.mono (by decide)) bST .nil pass0 (pa_cons (pv 0) (pa_cons (pv 10) (pa_cons (pv 11) (pa_cons (pv 3) pa_nil))))) (pe_meth (pv 8) kS.cl mSS GSS (hr.mono (by decide)) bSS .nil pass0 (pa_cons (pv 0) (pa_cons (pv 10) (pa_cons (pv 11) (pa_cons (pv 3) pa_nil)))))) (pa_cons (pv 12) pa_nil))))) (pss_one (ps_ret pe_bl)) pss_nil)))))))))))
      (pss_one (ps_ret pe_bl)))), ?_⟩
    obtain ⟨b, pm, pe, pq, rs, qs, rfl, h1, _⟩ := id hM
    have lo : o.cps.toList.length = o.cps.size := Array.length_toList
    have n40 := ok.n40
    have hmids := ok.mids
    refine ⟨_, rfl, .ref b, M, rfl, hM, by omega, by omega, fun vC H1 s1 hC => ?_⟩
    refine ⟨_, rfl, _, rfl, _, rfl, _, rfl, .ref b, M, o, r, n, rfl, hM.same s1, ok, hovo, hovr, hon, by omega, hro, by omega, fun le H3 s2 hle ele => ⟨_, _, rfl, ?_⟩⟩
    have s03 := s1.trans s2
    have hC3 := hC.same s2
    refine ⟨2, rfl, by decide, by decide, for_range (lo := 0) (n := (2 : Int).toNat) (fun j σ H' => ∃ o7 o8 o9 o10 o11 o12, σ = [some (.ref b), some (.str o), some (.str r), some (.int ((n : Nat) : Int)), some (.ref a), some vC, some (.ref le), o7, o8, o9, o10, o11, o12] ∧ Same H3 H') ⟨_, _, _, _, _, _, rfl, Same.refl _⟩ ?_ ?_⟩
    · rintro j σ H4 hj ⟨o7, o8, o9, o10, o11, o12, rfl, s4⟩
      refine ⟨_, rfl, _, rfl, _, rfl, _, rfl, vC, M, o, r, n, rfl, hC3.same s4, ok, h7, hon, hro, hovo, hovr, by omega, fun x dx y H5 hhd s5 hx0 hx => ?_, fun x dx H5 he s5 hx0 hx => ?_⟩
      · have hne : px M n o.cps.toList r.cps.toList ≠ [] := fun z => by rw [z] at hhd; cases hhd
        have hemp : (px M n o.cps.toList r.cps.toList).isEmpty = false := by
          cases h : px M n o.cps.toList r.cps.toList with
          | nil => exact absurd h hne
          | cons a b => rfl
        obtain ⟨hy1, hy2, hy3⟩ := px_mem.mp (List.mem_of_mem_head? hhd)
        have ly : y.cps.toList.length = y.cps.size := Array.length_toList
        have hovy : Over M.letters y := hy2
        have hyz : y.cps.size ≤ 6 := by omega
        have hparts : parts M o.cps.toList r.cps.toList n y.cps.toList = true := by
          unfold parts
          rw [decide_eq_true (by omega), decide_eq_true hy3]; rfl
        refine ⟨_, rfl, .ref x, CT, _, true, rfl, kT.ty hx, kitTT, _, rfl, .ref x, CS, _, false, rfl, kT.ty hx, kitTS, by show 2 ≤ sizeLine; decide, fun q1 hq1 => ?_⟩
        have s6 : Same H5 (upd H5 q1 (.lst [.bl true, .bl false])) := Same.upd hq1
        have e6 : (upd H5 q1 (.lst [.bl true, .bl false])) q1 = some (.lst [.bl true, .bl false]) := upd_same
        generalize upd H5 q1 (.lst [.bl true, .bl false]) = H6 at s6 e6 ⊢
        have hx6 := s6 _ _ hx
        have c6 := s4.trans (s5.trans s6)
        refine ⟨_, rfl, .ref x, CAn, _, true, rfl, kT.ty hx6, kitTAn, _, rfl, iteF ?_⟩
        refine ⟨_, rfl, _, rfl, by show 0 ≤ sizeLine; decide, fun z1 hz1 => ?_⟩
        have s7 : Same H6 (upd H6 z1 (.lst [])) := Same.upd hz1
        have e7 : (upd H6 z1 (.lst [])) z1 = some (.lst []) := upd_same
        generalize upd H6 z1 (.lst []) = H7 at s7 e7 ⊢
        refine ⟨dT (px M n o.cps.toList r.cps.toList), .list [], .lst (SqL.of (s7 _ _ (c6 _ _ ele))) (dp_texts _), .lst (SqL.of e7) .nil, shaped_dT ok.let_ px_over, by decide +kernel, _, rfl, by show 0 ≤ sizeLine; decide, fun z2 hz2 => ?_⟩
        have s8 : Same H7 (upd H7 z2 (.lst [])) := Same.upd hz2
        have e8 : (upd H7 z2 (.lst [])) z2 = some (.lst []) := upd_same
        generalize upd H7 z2 (.lst []) = H8 at s8 e8 ⊢
        refine ⟨dT (px M n o.cps.toList r.cps.toList), .list [], .lst (SqL.of (s8 _ _ (s7 _ _ (c6 _ _ ele)))) (dp_texts _), .lst (SqL.of e8) .nil, shaped_dT ok.let_ px_over, by decide +kernel, ?_⟩
        rw [eqv_dT, hemp]
        refine ⟨by show 2 ≤ sizeLine; decide, fun q2 hq2 => ?_⟩
        have s9 : Same H8 (upd H8 q2 (.lst [.bl (!false), .bl false])) := Same.upd hq2
        have e9 : (upd H8 q2 (.lst [.bl (!false), .bl false])) q2 = some (.lst [.bl (!false), .bl false]) := upd_same
        generalize upd H8 q2 (.lst [.bl (!false), .bl false]) = H9 at s9 e9 ⊢
        have s69 := s7.trans (s8.trans s9)
        refine ⟨.list [.bool true, .bool false], .list [.bool true, .bool false], .lst (SqL.of (s69 _ _ e6)) (dp_bools [true, false]), .lst (SqL.of e9) (dp_bools [true, false]), by decide +kernel, by decide +kernel, _, rfl, ?_⟩
        rw [show PyData.eqv (.list [.bool true, .bool false]) (.list [.bool true, .bool false]) = true by decide +kernel]
        refine iteF ?_
        have c9 := c6.trans s69
        have hx9 := s69 _ _ hx6
        have s09 := s03.trans c9
        refine ⟨_, rfl, _, rfl, dM M, dM M, (hC3.same c9).dp, (hM.same s09).dp, shaped_dM ok, shaped_dM ok, _, rfl, ?_⟩
        rw [eqv_dM ok]
        refine iteF ?_
        refine ⟨_, rfl, .ref x, CAl, _, false, rfl, kT.ty hx9, kitTAl, _, rfl, iteF ⟨_, rfl, .ref x, CAp, _, false, rfl, kT.ty hx9, kitTAp, _, rfl, iteF ⟨_, rfl, .ref x, CF, _, false, rfl, kT.ty hx9, kitTF, _, rfl, iteF ⟨_, rfl, .ref x, CE, _, false, rfl, kT.ty hx9, kitTE, _, rfl, iteF ?_⟩⟩⟩⟩
        refine ⟨_, rfl, by show 0 ≤ sizeLine; decide, fun z3 hz3 => ?_⟩
        have sA : Same H9 (upd H9 z3 (.lst [])) := Same.upd hz3
        have eA : (upd H9 z3 (.lst [])) z3 = some (.lst []) := upd_same
        generalize upd H9 z3 (.lst []) = HA at sA eA ⊢
        refine ⟨dT (px M n o.cps.toList r.cps.toList), .list [], .lst (SqL.of (sA _ _ (c9 _ _ ele))) (dp_texts _), .lst (SqL.of eA) .nil, shaped_dT ok.let_ px_over, by decide +kernel, _, rfl, ?_⟩
        rw [eqv_dT, hemp]
        have hxA := sA _ _ hx9
        have cA := c9.trans sA
        have s0A := s09.trans sA
        have at0 : atI (vT (px M n o.cps.toList r.cps.toList)) 0 = some (V.str y) := by
          obtain ⟨w0, l', hw0⟩ := List.exists_cons_of_ne_nil hne
          rw [hw0, List.head?_cons] at hhd
          rw [hw0]
          have := Option.some.inj hhd
          refine atI_nat (j := 0) ?_
          show some (V.str (mkS w0)) = _
          rw [this]
          show some (V.str (mkS y.cps.toList)) = _
          rw [show mkS y.cps.toList = y from by cases y; simp [mkS]]
        refine iteT ⟨_, rfl, x, CT, dx, _, _, rfl, hxA, kT.cl, nT, rfl, _, rfl, le, _, _, _, rfl, rfl, SqL.of (cA _ _ ele), at0, by simp [scal], _, rfl, ?_⟩
        rw [show (!decide (V.str y = V.str y)) = false by simp]
        refine iteF ?_
        refine .inl ⟨_, rfl, x, dx, _, rfl, hxA, rfl, _, rfl, _, rfl, _, rfl, _, rfl, x, dx, y, .ref b, M, o, r, n, rfl, hxA, hM.same s0A, ok, hovy, by omega, hovo, hovr, by omega, by omega, fun HB sB => ?_⟩
        rw [hparts]
        refine ⟨_, _, rfl, rfl, _, rfl, iteF ?_⟩
        have hxB := sB _ _ hxA
        have cB := cA.trans sB
        have s0B := s0A.trans sB
        refine ⟨_, rfl, a, rfl, ⟨_, SqL.of (s0B _ _ ha)⟩, for_list (K := K) (a := a) (xs := bs) (fun i σ H' => ∃ o10 o11 o12, σ = [some (.ref b), some (.str o), some (.str r), some (.int ((n : Nat) : Int)), some (.ref a), some vC, some (.ref le), some (.int (0 + ((j : Nat) : Int))), some (.ref x), some (.ref q1), o10, o11, o12] ∧ Same HB H') ⟨_, _, _, rfl, Same.refl _⟩ (fun i σ H' _ ⟨_, _, _, _, h⟩ => SqL.of (h _ _ (s0B _ _ ha))) ?_ ?_⟩
        · rintro i v σ HC hv ⟨o10, o11, o12, rfl, sC⟩
          obtain ⟨p, hp1, q, hp2, hp3, hp4, hp5, hp6, hp7⟩ := Paired.to' hB hv
          subst hp2
          have s0C := s0B.trans sC
          refine ⟨q, _, rfl, SqT.of (s0C _ _ hp3), rfl, _, _, rfl, _, _, rfl, rfl, ?_⟩
          refine ⟨_, rfl, _, rfl, _, rfl, _, rfl, _, rfl, .ref b, x, M, p.1, p.2, n, _, rfl, hM.same s0C, ok, hp4, hp5, by omega, by omega, by omega, .told (sC _ _ hxB) hovy (by omega), .inr ⟨dx, y, sC _ _ hxB⟩, fun bb HD hbb sD => ?_⟩
          subst hbb
          have hxD := sD _ _ (sC _ _ hxB)
          refine .inl ⟨_, rfl, x, dx, _, rfl, hxD, rfl, _, rfl, _, rfl, _, rfl, _, rfl, x, dx, y, .ref b, M, p.1, p.2, n, rfl, hxD, hM.same (s0C.trans sD), ok, hovy, by omega, hp4, hp5, by omega, by omega, fun HE sE => ?_⟩
          refine ⟨_, rfl, _, rfl, _, rfl, ?_⟩
          exact iteF ⟨_, _, _, rfl, sC.trans (sD.trans sE)⟩
        · rintro σ HC ⟨o10, o11, o12, rfl, sC⟩
          exact ⟨_, _, _, _, _, _, rfl, cB.trans sC⟩
      · have hemp : (px M n o.cps.toList r.cps.toList).isEmpty = true := by rw [he]; rfl
        refine ⟨_, rfl, .ref x, CT, _, false, rfl, kS.ty hx, kitST, _, rfl, .ref x, CS, _, true, rfl, kS.ty hx, kitSS, by show 2 ≤ sizeLine; decide, fun q1 hq1 => ?_⟩
        have s6 : Same H5 (upd H5 q1 (.lst [.bl false, .bl true])) := Same.upd hq1
        have e6 : (upd H5 q1 (.lst [.bl false, .bl true])) q1 = some (.lst [.bl false, .bl true]) := upd_same
        generalize upd H5 q1 (.lst [.bl false, .bl true]) = H6 at s6 e6 ⊢
        have hx6 := s6 _ _ hx
        have c6 := s4.trans (s5.trans s6)
        refine ⟨_, rfl, .ref x, CAn, _, true, rfl, kS.ty hx6, kitSAn, _, rfl, iteF ?_⟩
        refine ⟨_, rfl, _, rfl, by show 0 ≤ sizeLine; decide, fun z1 hz1 => ?_⟩
        have s7 : Same H6 (upd H6 z1 (.lst [])) := Same.upd hz1
        have e7 : (upd H6 z1 (.lst [])) z1 = some (.lst []) := upd_same
        generalize upd H6 z1 (.lst []) = H7 at s7 e7 ⊢
        refine ⟨dT (px M n o.cps.toList r.cps.toList), .list [], .lst (SqL.of (s7 _ _ (c6 _ _ ele))) (dp_texts _), .lst (SqL.of e7) .nil, shaped_dT ok.let_ px_over, by decide +kernel, _, rfl, by show 0 ≤ sizeLine; decide, fun z2 hz2 => ?_⟩
        have s8 : Same H7 (upd H7 z2 (.lst [])) := Same.upd hz2
        have e8 : (upd H7 z2 (.lst [])) z2 = some (.lst []) := upd_same
        generalize upd H7 z2 (.lst []) = H8 at s8 e8 ⊢
        refine ⟨dT (px M n o.cps.toList r.cps.toList), .list [], .lst (SqL.of (s8 _ _ (s7 _ _ (c6 _ _ ele)))) (dp_texts _), .lst (SqL.of e8) .nil, shaped_dT ok.let_ px_over, by decide +kernel, ?_⟩
        rw [eqv_dT, hemp]
        refine ⟨by show 2 ≤ sizeLine; decide, fun q2 hq2 => ?_⟩
        have s9 : Same H8 (upd H8 q2 (.lst [.bl (!true), .bl true])) := Same.upd hq2
        have e9 : (upd H8 q2 (.lst [.bl (!true), .bl true])) q2 = some (.lst [.bl (!true), .bl true]) := upd_same
        generalize upd H8 q2 (.lst [.bl (!true), .bl true]) = H9 at s9 e9 ⊢
        have s69 := s7.trans (s8.trans s9)
        refine ⟨.list [.bool false, .bool true], .list [.bool false, .bool true], .lst (SqL.of (s69 _ _ e6)) (dp_bools [false, true]), .lst (SqL.of e9) (dp_bools [false, true]), by decide +kernel, by decide +kernel, _, rfl, ?_⟩
        rw [show PyData.eqv (.list [.bool false, .bool true]) (.list [.bool false, .bool true]) = true by decide +kernel]
        refine iteF ?_
        have c9 := c6.trans s69
        have hx9 := s69 _ _ hx6
        have s09 := s03.trans c9
        refine ⟨_, rfl, _, rfl, dM M, dM M, (hC3.same c9).dp, (hM.same s09).dp, shaped_dM ok, shaped_dM ok, _, rfl, ?_⟩
        rw [eqv_dM ok]
        refine iteF ?_
        refine ⟨_, rfl, .ref x, CAl, _, false, rfl, kS.ty hx9, kitSAl, _, rfl, iteF ⟨_, rfl, .ref x, CAp, _, false, rfl, kS.ty hx9, kitSAp, _, rfl, iteF ⟨_, rfl, .ref x, CF, _, false, rfl, kS.ty hx9, kitSF, _, rfl, iteF ⟨_, rfl, .ref x, CE, _, false, rfl, kS.ty hx9, kitSE, _, rfl, iteF ?_⟩⟩⟩⟩
        refine ⟨_, rfl, by show 0 ≤ sizeLine; decide, fun z3 hz3 => ?_⟩
        have sA : Same H9 (upd H9 z3 (.lst [])) := Same.upd hz3
        have eA : (upd H9 z3 (.lst [])) z3 = some (.lst []) := upd_same
        generalize upd H9 z3 (.lst []) = HA at sA eA ⊢
        refine ⟨dT (px M n o.cps.toList r.cps.toList), .list [], .lst (SqL.of (sA _ _ (c9 _ _ ele))) (dp_texts _), .lst (SqL.of eA) .nil, shaped_dT ok.let_ px_over, by decide +kernel, _, rfl, ?_⟩
        rw [eqv_dT, hemp]
        have hxA := sA _ _ hx9
        have cA := c9.trans sA
        have s0A := s09.trans sA
        refine iteF (iteF ?_)
        refine .inr ⟨_, rfl, x, dx, _, rfl, hxA, rfl, _, rfl, _, rfl, _, rfl, _, rfl, x, dx, .ref b, M, o, r, n, rfl, hxA, hM.same s0A, ok, h7, hon, hro, hovo, hovr, by omega, fun cc HB sB hcc => ?_⟩
        obtain rfl : cc = true := hcc.mpr (fun z => (px_prt.mpr z) he)
        refine ⟨_, _, rfl, rfl, _, rfl, iteF ?_⟩
        have hxB := sB _ _ hxA
        have cB := cA.trans sB
        have s0B := s0A.trans sB
        refine ⟨_, rfl, a, rfl, ⟨_, SqL.of (s0B _ _ ha)⟩, for_list (K := K) (a := a) (xs := bs) (fun i σ H' => ∃ o10 o11 o12, σ = [some (.ref b), some (.str o), some (.str r), some (.int ((n : Nat) : Int)), some (.ref a), some vC, some (.ref le), some (.int (0 + ((j : Nat) : Int))), some (.ref x), some (.ref q1), o10, o11, o12] ∧ Same HB H') ⟨_, _, _, rfl, Same.refl _⟩ (fun i σ H' _ ⟨_, _, _, _, h⟩ => SqL.of (h _ _ (s0B _ _ ha))) ?_ ?_⟩
        · rintro i v σ HC hv ⟨o10, o11, o12, rfl, sC⟩
          obtain ⟨p, hp1, q, hp2, hp3, hp4, hp5, hp6, hp7⟩ := Paired.to' hB hv
          subst hp2
          have s0C := s0B.trans sC
          refine ⟨q, _, rfl, SqT.of (s0C _ _ hp3), rfl, _, _, rfl, _, _, rfl, rfl, ?_⟩
          refine ⟨_, rfl, _, rfl, _, rfl, _, rfl, _, rfl, .ref b, x, M, p.1, p.2, n, _, rfl, hM.same s0C, ok, hp4, hp5, by omega, by omega, by omega, .same (sC _ _ hxB), .inl (by omega), fun bb HD hbb sD => ?_⟩
          have hxD := sD _ _ (sC _ _ hxB)
          refine .inr ⟨_, rfl, x, dx, _, rfl, hxD, rfl, _, rfl, _, rfl, _, rfl, _, rfl, x, dx, .ref b, M, p.1, p.2, n, rfl, hxD, hM.same (s0C.trans sD), ok, h7, by omega, by omega, hp4, hp5, by omega, fun cc HE sE hcc => ?_⟩
          obtain rfl : cc = bb := Bool.eq_iff_iff.mpr (hcc.trans hbb.symm)
          refine ⟨_, rfl, _, rfl, _, rfl, ?_⟩
          exact iteF ⟨_, _, _, rfl, sC.trans (sD.trans sE)⟩
        · rintro σ HC ⟨o10, o11, o12, rfl, sC⟩
          exact ⟨_, _, _, _, _, _, rfl, cB.trans sC⟩
    · rintro σ H4 ⟨o7, o8, o9, o10, o11, o12, rfl, s4⟩
      exact kk H4 (s03.trans s4)
end
end Be

namespace Be
open PySem L2
theorem mulOk1 (c : Nat) {k : Int} (h : k = 9 ∨ k = 12) : MulOk (chr1 c) k := by
  rcases h with rfl | rfl
  · exact ⟨by decide, fun _ _ => by show ¬ ((1 : Nat) : Int) > (2 ^ 63 - 1) / 9; decide, fun _ _ => by show decide ((1 * 9 : Nat) > sizeLine) = false; decide +kernel⟩
  · exact ⟨by decide, fun _ _ => by show ¬ ((1 : Nat) : Int) > (2 ^ 63 - 1) / 12; decide, fun _ _ => by show decide ((1 * 12 : Nat) > sizeLine) = false; decide +kernel⟩
theorem mul9 (c : Nat) : (Txt.mul (chr1 c) 9).cps.toList = List.replicate 9 c := rfl
theorem mul12 (c : Nat) : (Txt.mul (chr1 c) 12).cps.toList = List.replicate 12 c := rfl
section
variable {P : Program} {w : World} {K : PySem.W.Frag} {mg : Str → Option Value} {base : Heap}
/-! ### _law_long_right -/
def spLongT : Sp := fun vs H Q _ => ∃ (v : V) (a : Addr) (M : Mach) (o r : Str) (ds : List Str), vs = [v, .str o, .str r, .ref a] ∧ MAt H v M ∧ M.Ok ∧ M.moves.length ≤ 7 ∧ o.cps.size ≤ 12 ∧ r.cps.size = o.cps.size ∧ Over M.letters o ∧ Over M.letters r ∧ H a = some (.lst (ds.map V.str)) ∧ (∀ d ∈ ds, Over M.letters d ∧ d.cps.size ≤ 100) ∧ ∀ H', Same H H' → Q (.bl true) H'
abbrev NLr : List Str := ["_law_machine_here", "_law_one", "_law_other", "_law_drawn_here", "_law_found", "_law_ending"]
theorem scLr : FnScope NLr ["_law_machine_here", "_law_one", "_law_other", "_law_drawn_here"] (defScope (top 57)) := ⟨rfl, rfl, rfl, by decide +kernel, rfl, by decide +kernel, by decide +kernel⟩
set_option maxHeartbeats 4000000 in
theorem ok_longT {f fTa fDu fLh CT CS : Addr} {fd fdTa fdDu fdLh : FuncData} (D : Def K mg "_law_long_right" (top 57) ["_law_machine_here", "_law_one", "_law_other", "_law_drawn_here"] f fd) (T : BI mg)
    (kT : Kl K mg "Told" CT) (kS : Kl K mg "Same" CS) (kitTT : PySem.W.kitOne K (.ref CT) (.ref CT) = some true) (kitST : PySem.W.kitOne K (.ref CS) (.ref CT) = some false)
    (DTa : Def K mg "told_apart" (top 42) ["machine", "one", "other", "long"] fTa fdTa) (GTa : FnOk P w K mg base CX0 7 fTa fdTa ["machine", "one", "other", "long"] (spTold CT CS))
    (DDu : Def K mg "_law_due" (top 55) ["_law_machine_here", "_law_one", "_law_other", "_law_long", "_law_found"] fDu fdDu) (GDu : FnOk P w K mg base CX0 3 fDu fdDu ["_law_machine_here", "_law_one", "_law_other", "_law_long", "_law_found"] (spDueT CT CS))
    (DLh : Def K mg "_law_has" (top 51) ["_law_machine_here", "_law_word", "_law_state"] fLh fdLh) (GLh : FnOk P w K mg base CX0 1 fLh fdLh ["_law_machine_here", "_law_word", "_law_state"] spLHas) : FnOk P w K mg base CX0 8 f fd ["_law_machine_here", "_law_one", "_law_other", "_law_drawn_here"] spLongT := by
  refine D.F.ok scLr (fun vs H Q E h => ?_) (fun cdv A outer s H vs Q E hr h => ?_)
  · obtain ⟨v, a, M, o, r, ds, rfl, _⟩ := h; rfl
  · obtain ⟨v, a, M, o, r, ds, rfl, hM, ok, h7, ho12, hro, hovo, hovr, ha, hds, kk⟩ := h
    refine ⟨_, (pss_cons (ps_set (i := 4) scLr.nd rfl (Or.inl rfl) (pe_call GTa (hr.mono (by decide)) (by rfl) DTa.m DTa.F.kp DTa.b .nil pass0 (pa_cons (pv 0) (pa_cons (pv 1) (pa_cons (pv 2) (pa_cons pe_int pa_nil))))))
      (pss_cons (ps_if (pt_val (pe_callB call_isinstC (by rfl) T.isinstance (by decide +kernel) (pa_cons (pv 4) (pa_cons (pe_glob (v := .ref CT) (by rfl) kT.m rfl) pa_nil)))) (pss_one (ps_ret (pe_call GDu (hr.mono (by decide)) (by rfl) DDu.m DDu.F.kp DDu.b .nil pass0 (pa_cons (pv 0) (pa_cons (pv 1) (pa_cons (pv 2) (pa_cons pe_int (pa_cons (pv 4) pa_nil)))))))) pss_nil)
      (pss_cons (ps_for PassesOwn.never rfl (pi_list (pv 3)) (pg_name (i := 5) scLr.nd rfl (Or.inl rfl))
        (pss_cons (ps_set (i := 5) scLr.nd rfl (Or.inl rfl) (pe_slice sl_str (pe_op op_add_str (pv 5) (pe_op op_repS (pe_ix ix_str (pe_ix ix_tup (pv 0) pe_int (fun _ _ => rfl)) pe_int (fun _ _ => rfl)) pe_int)) po_none (po_some (pe_op op_sub pe_int (pe_callB call_len_str (by rfl) T.len PySem.boot_len (pa_cons (pv 1) pa_nil))))))
      (pss_one (ps_if (pt_cmpR op_ne (pe_call GLh (hr.mono (by decide)) (by rfl) DLh.m DLh.F.kp DLh.b .nil pass0 (pa_cons (pv 0) (pa_cons (pe_op op_add_str (pv 1) (pv 5)) (pa_cons pe_int pa_nil)))) (pe_call GLh (hr.mono (by decide)) (by rfl) DLh.m DLh.F.kp DLh.b .nil pass0 (pa_cons (pv 0) (pa_cons (pe_op op_add_str (pv 2) (pv 5)) (pa_cons pe_int pa_nil)))) (nomark _)) (pss_one (ps_ret pe_bl)) pss_nil))))
      (pss_one (ps_ret pe_bl))))), ?_⟩
    obtain ⟨b, pm, pe, pq, rs, qs, rfl, h1, _⟩ := id hM
    have lo : o.cps.toList.length = o.cps.size := Array.length_toList
    have hk3 : M.letters.cps.size ≤ 3 := ok.let_.k3
    have hk1 : 1 ≤ M.letters.cps.size := ok.let_.k1
    refine ⟨_, rfl, _, rfl, _, rfl, .ref b, M, o, r, 12, rfl, hM, ok, h7, ho12, hro, hovo, hovr, by decide, fun x dx y H1 hhd s1 hx0 hx => ?_, fun x dx H1 he s1 hx0 hx => ?_⟩
    · obtain ⟨hy1, hy2, hy3⟩ := px_mem.mp (List.mem_of_mem_head? hhd)
      have ly : y.cps.toList.length = y.cps.size := Array.length_toList
      refine ⟨_, rfl, .ref x, CT, _, true, rfl, kT.ty hx, kitTT, _, rfl, iteT ?_⟩
      refine ⟨_, rfl, _, rfl, _, rfl, _, rfl, .ref b, x, M, o, r, 12, _, rfl, hM.same s1, ok, hovo, hovr, ho12, hro, by decide, .told hx hy2 (by omega), .inr ⟨dx, y, hx⟩, fun bb H2 hbb s2 => ?_⟩
      have hp : parts M o.cps.toList r.cps.toList 12 y.cps.toList = true := by
        unfold parts
        rw [decide_eq_true (by omega), decide_eq_true hy3]; rfl
      rw [hp] at hbb
      subst hbb
      exact kk H2 (s1.trans s2)
    · refine ⟨_, rfl, .ref x, CT, _, false, rfl, kS.ty hx, kitST, _, rfl, iteF ?_⟩
      have ha1 := s1 _ _ ha
      refine ⟨_, rfl, a, rfl, ⟨_, SqL.of ha1⟩, for_list (K := K) (a := a) (xs := ds.map V.str) (fun i σ H' => ∃ o5, σ = [some (.ref b), some (.str o), some (.str r), some (.ref a), some (.ref x), o5] ∧ Same H H') ⟨_, rfl, s1⟩ (fun i σ H' _ ⟨_, _, h⟩ => SqL.of (h _ _ ha)) ?_ ?_⟩
      · rintro i v σ H2 hv ⟨o5, rfl, s2⟩
        rw [List.getElem?_map] at hv
        obtain ⟨d, hd, rfl⟩ := Option.map_eq_some_iff.mp hv
        obtain ⟨hdo, hdz⟩ := hds d (List.mem_of_getElem? hd)
        obtain ⟨c0, hc0⟩ : ∃ c0, M.letters.cps.toList[0]? = some c0 := ⟨_, List.getElem?_eq_getElem (show 0 < M.letters.cps.toList.length by rw [Array.length_toList]; omega)⟩
        have hc0L : c0 ∈ M.L := List.mem_of_getElem? hc0
        have hmz : (Txt.mul (chr1 c0) 12).cps.size = 12 := rfl
        refine ⟨_, rfl, _, rfl, b, _, _, _, rfl, rfl, SqT.of (s2 _ _ h1), rfl, M.letters, _, _, rfl, rfl, sz_le (by show M.letters.cps.size ≤ _; omega), atI_nat (j := 0) hc0, chr1 c0, 12, rfl, rfl, mulOk1 c0 (.inr rfl), d, Txt.mul (chr1 c0) 12, rfl, rfl, sz_le (by show d.cps.size + 12 ≤ _; omega), _, rfl, o, rfl, sz_le (by show o.cps.size ≤ _; omega), _, _, rfl, rfl, _, rfl, d ++ Txt.mul (chr1 c0) 12, rfl, sz_le (by show (d ++ Txt.mul (chr1 c0) 12).cps.size ≤ _; rw [app_sizeS, hmz]; omega), ?_⟩
        have ecut : (12 : Int) - ((o.length : Nat) : Int) = ((12 - o.cps.size : Nat) : Int) := by show (12 : Int) - ((o.cps.size : Nat) : Int) = _; omega
        rw [ecut]
        have ht := cut_take (d ++ Txt.mul (chr1 c0) 12) (12 - o.cps.size)
        generalize cutS (d ++ Txt.mul (chr1 c0) 12) none (some ((12 - o.cps.size : Nat) : Int)) = z at ht
        have hzl : z.cps.toList.length = 12 - o.cps.size := by
          rw [ht, List.length_take, Array.length_toList, app_sizeS, hmz]; omega
        have hzs : z.cps.size = 12 - o.cps.size := by rw [← hzl, Array.length_toList]
        have hzo : ∀ c ∈ z.cps.toList, c ∈ M.L := fun c hc => by
          rw [ht] at hc
          have := List.mem_of_mem_take hc
          rw [app_list, mul12] at this
          rcases List.mem_append.mp this with q | q
          · exact hdo c q
          · rw [List.eq_of_mem_replicate q]; exact hc0L
        have heq : M.hasAt 0 (o.cps.toList ++ z.cps.toList) = M.hasAt 0 (r.cps.toList ++ z.cps.toList) := Classical.byContradiction fun hne => by
          have := px_mem.mpr ⟨show z.cps.toList.length = 12 - o.cps.toList.length by rw [hzl, lo], hzo, hne⟩
          rw [he] at this; cases this
        have ovA : ∀ {y : Str}, Over M.letters y → Over M.letters (y ++ z) := fun {y} hy c hc => by
          rw [app_list] at hc
          exact (List.mem_append.mp hc).elim (hy c) (hzo c)
        refine ⟨_, rfl, _, rfl, _, rfl, o, z, rfl, rfl, sz_le (by show o.cps.size + z.cps.size ≤ _; omega), .ref b, M, o ++ z, 0, rfl, hM.same s2, ok, ovA hovo, by rw [app_sizeS]; omega, ok.n1, _, rfl, _, rfl, _, rfl, r, z, rfl, rfl, sz_le (by show r.cps.size + z.cps.size ≤ _; omega), .ref b, M, r ++ z, 0, rfl, hM.same s2, ok, ovA hovr, by rw [app_sizeS]; omega, ok.n1, rfl, _, rfl, ?_⟩
        rw [neb, app_list, app_list, heq]
        rw [show decide (M.hasAt 0 (r.cps.toList ++ z.cps.toList) ≠ M.hasAt 0 (r.cps.toList ++ z.cps.toList)) = false by simp]
        exact iteF ⟨_, rfl, s2⟩
      · rintro σ H2 ⟨o5, rfl, s2⟩
        exact kk H2 s2
end
end Be

namespace Be
open PySem L2
theorem rg2T {n : Nat} {j : Int} (hn : n ≤ 63) (hj : j = if (if (n : Int) < 2 then (n : Int) else 2) > 1 then (if (n : Int) < 2 then (n : Int) else 2) else 1) : 0 ≤ j ∧ j ≤ 2 := by
  subst hj
  split <;> split <;> omega
def mirT : Mach := ⟨"ab", [[0, 1, 1, 0], [1, 1, 1, 1]], [true, false], [[true, true], [false, false]]⟩
theorem ok_mirT : mirT.Ok := ok_of (by decide +kernel)
theorem ovM {y : Str} (h : (y.cps.toList.all fun c => mirT.letters.cps.toList.contains c) = true) : Over mirT.letters y := fun c hc => by
  have := List.all_eq_true.mp h c hc
  exact List.contains_iff_mem.mp this
theorem strOfL {y : Str} {l : List Nat} (h : y.cps.toList = l) : y = ⟨l.toArray⟩ := by
  cases y with
  | mk c =>
    have h' : c.toList = l := h
    subst h'
    rfl
section
variable {P : Program} {w : World} {K : PySem.W.Frag} {mg : Str → Option Value} {base : Heap}
def spLaw (K : PySem.W.Frag) : Sp := fun vs H Q _ => ∃ (a : Addr) (ns : List Int), vs = [.ref a] ∧ SqL K H a (ns.map V.int) ∧ ns.length ≤ 63 ∧ ∀ H', Q (.bl true) H'
abbrev NLw : List Str := ["_law_script", "_law_letters_here", "_law_by", "_law_machine_here", "_law_long", "_law_many", "_law_one", "_law_other", "_law_first", "_law_second", "_law_at", "_law_mirrors", "_law_found", "_law_more"]
theorem scLaw : FnScope NLw ["_law_script"] (defScope (top 58)) := ⟨rfl, rfl, rfl, by decide +kernel, rfl, by decide +kernel, by decide +kernel⟩
abbrev bBy : List Stmt := (stB (stN (defBody (top 58)) 2))
set_option maxHeartbeats 8000000 in
theorem blk_by {f fTa fMa fLt fVa fCe fDr fRi fLr CT CS : Addr} {fdTa fdMa fdLt fdVa fdCe fdDr fdRi fdLr : FuncData} {cdv : Value} {A : Around} {outer : List Env} {s : Shared} {Hx : Hp} {E : XK} (hr : Room 9 (A.deeper (PyProof.Rows.envOfC "law" (defScope (top 58)) s.heap.objs.size f cdv))) (T : BI mg) (Tmin : mg "min" = none)
    (DTa : Def K mg "told_apart" (top 42) ["machine", "one", "other", "long"] fTa fdTa) (GTa : FnOk P w K mg base CX0 7 fTa fdTa ["machine", "one", "other", "long"] (spTold CT CS))
    (DMa : Def K mg "_law_machine" (top 48) ["_law_script", "_law_by", "_law_letters_here", "_law_most"] fMa fdMa) (GMa : FnOk P w K mg base CX0 3 fMa fdMa ["_law_script", "_law_by", "_law_letters_here", "_law_most"] (spMachine K))
    (DLt : Def K mg "_law_letters" (top 49) ["_law_script"] fLt fdLt) (GLt : FnOk P w K mg base CX0 3 fLt fdLt ["_law_script"] (spLetters K))
    (DVa : Def K mg "_law_value" (top 46) ["_law_cell", "_law_turn"] fVa fdVa) (GVa : FnOk P w K mg base CX0 2 fVa fdVa ["_law_cell", "_law_turn"] spValue)
    (DCe : Def K mg "_law_cell_at" (top 44) ["_law_script", "_law_k"] fCe fdCe) (GCe : FnOk P w K mg base CX0 1 fCe fdCe ["_law_script", "_law_k"] (spCell K))
    (DDr : Def K mg "_law_drawn" (top 53) ["_law_script", "_law_by", "_law_letters_here", "_law_most"] fDr fdDr) (GDr : FnOk P w K mg base CX0 3 fDr fdDr ["_law_script", "_law_by", "_law_letters_here", "_law_most"] (spDrawn K))
    (DRi : Def K mg "_law_right" (top 56) ["_law_machine_here", "_law_one", "_law_other", "_law_long", "_law_besides"] fRi fdRi) (GRi : FnOk P w K mg base CX0 8 fRi fdRi ["_law_machine_here", "_law_one", "_law_other", "_law_long", "_law_besides"] spRightT)
    (DLr : Def K mg "_law_long_right" (top 57) ["_law_machine_here", "_law_one", "_law_other", "_law_drawn_here"] fLr fdLr) (GLr : FnOk P w K mg base CX0 8 fLr fdLr ["_law_machine_here", "_law_one", "_law_other", "_law_drawn_here"] spLongT) : Blk (cxOf CX0 P w K mg base NLw "law" (defScope (top 58)) f cdv A outer s Hx E).nox bBy (fun Dn σ H => ∃ (p : Addr) (ms : List Int) (L : Str) (B : Int) (o3 o4 o5 o6 o7 o8 o9 : Option V),
    σ = [some (.ref p), some (.str L), some (.int B), o3, o4, o5, o6, o7, o8, o9, none, none, none, none] ∧ H p = some (.lst (ms.map V.int)) ∧ 0 ≤ B ∧ LetOk L ∧
    ∀ (o3 o4 o5 o6 o7 o8 o9 : Option V) (H' : Hp), Same H H' → Dn.nx [some (.ref p), some (.str L), some (.int B), o3, o4, o5, o6, o7, o8, o9, none, none, none, none] H') := by
  refine ⟨_, (pss_cons (ps_set (i := 3) scLaw.nd rfl (Or.inl rfl) (pe_call GMa (hr.mono (by decide)) (by rfl) DMa.m DMa.F.kp DMa.b .nil pass0 (pa_cons (pv 0) (pa_cons (pv 2) (pa_cons (pv 1) (pa_cons pe_int pa_nil))))))
      (pss_cons (ps_set (i := 4) scLaw.nd rfl (Or.inl rfl) (pe_op op_mod (pe_call GVa (hr.mono (by decide)) (by rfl) DVa.m DVa.F.kp DVa.b .nil pass0 (pa_cons (pe_call GCe (hr.mono (by decide)) (by rfl) DCe.m DCe.F.kp DCe.b .nil pass0 (pa_cons (pv 0) (pa_cons (pv 2) pa_nil))) (pa_cons pe_int pa_nil))) (pe_joinE (pe_ifExp (pt_cmp (pc_lt (pe_callB call_len_str (by rfl) T.len PySem.boot_len (pa_cons (pv 1) pa_nil)) pe_int)) pe_int pe_int))))
      (pss_cons (ps_set (i := 5) scLaw.nd rfl (Or.inl rfl) (pe_op op_mod (pe_call GVa (hr.mono (by decide)) (by rfl) DVa.m DVa.F.kp DVa.b .nil pass0 (pa_cons (pe_call GCe (hr.mono (by decide)) (by rfl) DCe.m DCe.F.kp DCe.b .nil pass0 (pa_cons (pv 0) (pa_cons (pv 2) pa_nil))) (pa_cons pe_int pa_nil))) (pe_op op_add (pv 4) pe_int)))
      (pss_cons (ps_set (i := 6) scLaw.nd rfl (Or.inl rfl) (pe_slice sl_str (pe_op op_add_str (pe_call GDr (hr.mono (by decide)) (by rfl) DDr.m DDr.F.kp DDr.b .nil pass0 (pa_cons (pv 0) (pa_cons (pe_op op_add (pv 2) pe_int) (pa_cons (pv 1) (pa_cons pe_int pa_nil))))) (pe_op op_repS (pe_ix ix_str (pv 1) pe_int (fun _ _ => rfl)) pe_int)) po_none (po_some (pv 5))))
      (pss_cons (ps_set (i := 7) scLaw.nd rfl (Or.inl rfl) (pe_slice sl_str (pe_op op_add_str (pe_call GDr (hr.mono (by decide)) (by rfl) DDr.m DDr.F.kp DDr.b .nil pass0 (pa_cons (pv 0) (pa_cons (pe_op op_add (pv 2) pe_int) (pa_cons (pv 1) (pa_cons pe_int pa_nil))))) (pe_op op_repS (pe_ix ix_str (pv 1) (pe_un un_neg pe_int) (fun _ _ => rfl)) pe_int)) po_none (po_some (pv 5))))
      (pss_cons (ps_for PassesOwn.never rfl (pi_tup (pe_tup (pa_cons (pe_tup (pa_cons (pv 6) (pa_cons (pv 7) pa_nil))) (pa_cons (pe_tup (pa_cons (pv 6) (pa_cons (pv 6) pa_nil))) (pa_cons (pe_tup (pa_cons (pv 6) (pa_cons (pe_rev (pv 6)) pa_nil))) pa_nil))))) (pg_tup (by rfl) (pgs_cons (pg_name (i := 8) scLaw.nd rfl (Or.inl rfl)) (pgs_cons (pg_name (i := 9) scLaw.nd rfl (Or.inl rfl)) pgs_nil)))
        (pss_one (ps_if (pt_not (pt_val (pe_call GRi (hr.mono (by decide)) (by rfl) DRi.m DRi.F.kp DRi.b .nil pass0 (pa_cons (pv 3) (pa_cons (pv 8) (pa_cons (pv 9) (pa_cons (pv 4) (pa_cons (pe_lst (pa_cons (pe_tup (pa_cons (pv 6) (pa_cons (pv 7) pa_nil))) (pa_cons (pe_tup (pa_cons (pv 7) (pa_cons (pv 7) pa_nil))) pa_nil))) pa_nil)))))))) (pss_one (ps_ret pe_bl)) pss_nil)))
      (pss_one (ps_if (pt_not (pt_val (pe_call GLr (hr.mono (by decide)) (by rfl) DLr.m DLr.F.kp DLr.b .nil pass0 (pa_cons (pv 3) (pa_cons (pv 6) (pa_cons (pv 7) (pa_cons (pe_lc (own := [("_law_at", 10)]) (g := gName 10) (by rfl) scLaw.nd (pi_range1 (by rfl) T.range (pa_cons pe_int pa_nil))
          (blkOk_by (own := [("_law_at", 10)]) (N := NLw) (sc := (defScope (top 58))) (by decide +kernel))
          (fun _ _ _ _ _ => (pg_name (i := 10) scLaw.nd rfl (Or.inl rfl))) (fun _ _ _ _ _ => pts_nil) (fun _ _ _ _ _ => (pe_call GDr (hr.mono (by decide)) (by rfl) DDr.m DDr.F.kp DDr.b .nil pass0 (pa_cons (pv 0) (pa_cons (pe_op op_add (pv 2) (pv 10)) (pa_cons (pv 1) (pa_cons pe_int pa_nil))))))) pa_nil))))))) (pss_one (ps_ret pe_bl)) pss_nil)))))))), ?_⟩
  rintro Dn σ H ⟨p, ms, L, B, o3, o4, o5, o6, o7, o8, o9, rfl, hp, hB, hL, kk⟩
  have hk1 : 1 ≤ L.cps.size := hL.k1
  have hk3 : L.cps.size ≤ 3 := hL.k3
  have hLl : L.cps.toList.length = L.cps.size := Array.length_toList
  refine ⟨_, rfl, _, rfl, _, rfl, p, ms, B, L, 5, rfl, SqL.of hp, hB, hL, by decide, by decide, fun M vM H1 okM eM hn5 s1 hM => ?_⟩
  have n5 : M.moves.length ≤ 5 := by
    have h2 : ((M.moves.length : Nat) : Int) ≤ 5 := hn5
    omega
  subst eM
  obtain ⟨c0, hc0⟩ : ∃ c0, M.letters.cps.toList[0]? = some c0 := ⟨_, List.getElem?_eq_getElem (show 0 < M.letters.cps.toList.length by omega)⟩
  have hc0L : c0 ∈ M.L := List.mem_of_getElem? hc0
  obtain ⟨c1, hc1⟩ : ∃ c1, M.letters.cps.toList[M.letters.cps.toList.length - 1]? = some c1 := ⟨_, List.getElem?_eq_getElem (show M.letters.cps.toList.length - 1 < M.letters.cps.toList.length by omega)⟩
  have hc1L : c1 ∈ M.L := List.mem_of_getElem? hc1
  -- long
  refine ⟨_, rfl, _, rfl, p, ms, B, rfl, SqL.of (s1 _ _ hp), hB, fun cell => ?_⟩
  refine ⟨cell, 9, rfl, by decide, by decide, fun v1 H2 hv1 s2 => ?_⟩
  refine ⟨fun v H' => (v = .int 7 ∨ v = .int 5) ∧ H' = H2, ?_, ?_⟩
  · refine ⟨_, rfl, M.letters, rfl, sz_le (by show M.letters.cps.size ≤ _; omega), _, _, rfl, rfl, _, rfl, ?_⟩
    by_cases h3 : M.letters.cps.size < 3
    · exact iteD (by show ((M.letters.cps.size : Nat) : Int) < 3; omega) ⟨.inl rfl, rfl⟩
    · exact iteND (by show ¬ ((M.letters.cps.size : Nat) : Int) < 3; omega) ⟨.inr rfl, rfl⟩
  rintro v H2' ⟨hv, rfl⟩
  obtain ⟨k, rfl, hk⟩ : ∃ k : Int, v = .int k ∧ (k = 7 ∨ k = 5) := by
    rcases hv with h | h
    · exact ⟨7, h, .inl rfl⟩
    · exact ⟨5, h, .inr rfl⟩
  refine ⟨_, _, rfl, rfl, (by show 0 < k; omega), ?_⟩
  obtain ⟨n, hn, hn6⟩ : ∃ n : Nat, v1 % k = ((n : Nat) : Int) ∧ n ≤ 6 := by
    have h1 := Int.emod_nonneg v1 (show k ≠ 0 by omega)
    have h2 := Int.emod_lt_of_pos v1 (show 0 < k by omega)
    exact ⟨(v1 % k).toNat, by omega, by omega⟩
  have s02 := s1.trans s2
  -- many
  refine ⟨_, rfl, _, rfl, p, ms, B, rfl, SqL.of (s02 _ _ hp), hB, fun cell2 => ?_⟩
  refine ⟨cell2, 10, rfl, by decide, by decide, fun v2 H3 hv2 s3 => ?_⟩
  refine ⟨_, rfl, _, _, rfl, rfl, _, _, rfl, rfl, (by show 0 < v1 % k + 1; omega), ?_⟩
  obtain ⟨m, hm, hmn⟩ : ∃ m : Nat, v2 % (v1 % k + 1) = ((m : Nat) : Int) ∧ m ≤ n := by
    have h1 := Int.emod_nonneg v2 (show v1 % k + 1 ≠ 0 by omega)
    have h2 := Int.emod_lt_of_pos v2 (show 0 < v1 % k + 1 by omega)
    exact ⟨(v2 % (v1 % k + 1)).toNat, by omega, by omega⟩
  have s03 := s02.trans s3
  -- one
  have hz9 : ∀ c, (Txt.mul (chr1 c) 9).cps.size = 9 := fun c => rfl
  have cut : ∀ {y : Str} {c : Nat}, Over M.letters y → c ∈ M.L → Over M.letters (cutS (y ++ Txt.mul (chr1 c) 9) none (some (v2 % (v1 % k + 1)))) ∧ (cutS (y ++ Txt.mul (chr1 c) 9) none (some (v2 % (v1 % k + 1)))).cps.size = m := fun {y c} hy hc => by
    rw [hm]
    have ht := cut_take (y ++ Txt.mul (chr1 c) 9) m
    refine ⟨fun d hd => ?_, ?_⟩
    · rw [ht] at hd
      have := List.mem_of_mem_take hd
      rw [app_list, mul9] at this
      rcases List.mem_append.mp this with q | q
      · exact hy d q
      · rw [List.eq_of_mem_replicate q]; exact hc
    · rw [← Array.length_toList, ht, List.length_take, Array.length_toList, app_sizeS, hz9]; omega
  refine ⟨_, rfl, _, rfl, _, _, rfl, rfl, _, rfl, p, ms, B + 1, M.letters, 9, rfl, SqL.of (s03 _ _ hp), by omega, hL, by decide, by decide, fun y1 H4 s4 hy1 hy1z => ?_⟩
  refine ⟨_, rfl, M.letters, _, _, rfl, rfl, sz_le (by show M.letters.cps.size ≤ _; omega), atI_nat (j := 0) hc0, chr1 c0, 9, rfl, rfl, mulOk1 c0 (.inl rfl), y1, Txt.mul (chr1 c0) 9, rfl, rfl, sz_le (by show y1.cps.size + 9 ≤ _; omega), _, rfl, _, rfl, y1 ++ Txt.mul (chr1 c0) 9, rfl, sz_le (by show (y1 ++ Txt.mul (chr1 c0) 9).cps.size ≤ _; rw [app_sizeS, hz9]; omega), ?_⟩
  obtain ⟨oo, oz⟩ := cut hy1 hc0L
  generalize cutS (y1 ++ Txt.mul (chr1 c0) 9) none (some (v2 % (v1 % k + 1))) = o at oo oz ⊢
  have s04 := s03.trans s4
  -- other
  have hat1 : atI M.letters.cps.toList (-1) = some c1 := by rw [at_neg1 (by omega)]; exact hc1
  refine ⟨_, rfl, _, rfl, _, _, rfl, rfl, _, rfl, p, ms, B + 2, M.letters, 9, rfl, SqL.of (s04 _ _ hp), by omega, hL, by decide, by decide, fun y2 H5 s5 hy2 hy2z => ?_⟩
  refine ⟨_, rfl, _, rfl, M.letters, _, _, rfl, rfl, sz_le (by show M.letters.cps.size ≤ _; omega), hat1, chr1 c1, 9, rfl, rfl, mulOk1 c1 (.inl rfl), y2, Txt.mul (chr1 c1) 9, rfl, rfl, sz_le (by show y2.cps.size + 9 ≤ _; omega), _, rfl, _, rfl, y2 ++ Txt.mul (chr1 c1) 9, rfl, sz_le (by show (y2 ++ Txt.mul (chr1 c1) 9).cps.size ≤ _; rw [app_sizeS, hz9]; omega), ?_⟩
  obtain ⟨ro, rz⟩ := cut hy2 hc1L
  generalize cutS (y2 ++ Txt.mul (chr1 c1) 9) none (some (v2 % (v1 % k + 1))) = r at ro rz ⊢
  have s05 := s04.trans s5
  -- the three
  have rev_o : Over M.letters (revS o) ∧ (revS o).cps.size = m := by
    refine ⟨fun c hc => ?_, ?_⟩
    · rw [rev_list] at hc
      exact oo c (List.mem_reverse.mp hc)
    · rw [← Array.length_toList, rev_list, List.length_reverse, Array.length_toList]; exact oz
  refine ⟨_, rfl, _, rfl, by show 2 ≤ sizeLine; decide, fun q1 hq1 => ?_⟩
  have s6 : Same H5 (upd H5 q1 (.tup [.str o, .str r])) := Same.upd hq1
  have e6 : (upd H5 q1 (.tup [.str o, .str r])) q1 = some (.tup [.str o, .str r]) := upd_same
  generalize upd H5 q1 (.tup [.str o, .str r]) = H6 at s6 e6 ⊢
  refine ⟨_, rfl, _, rfl, by show 2 ≤ sizeLine; decide, fun q2 hq2 => ?_⟩
  have s7 : Same H6 (upd H6 q2 (.tup [.str o, .str o])) := Same.upd hq2
  have e7 : (upd H6 q2 (.tup [.str o, .str o])) q2 = some (.tup [.str o, .str o]) := upd_same
  generalize upd H6 q2 (.tup [.str o, .str o]) = H7 at s7 e7 ⊢
  refine ⟨_, rfl, _, rfl, o, rfl, sz_le (by show o.cps.size ≤ _; omega), by show 2 ≤ sizeLine; decide, fun q3 hq3 => ?_⟩
  have s8 : Same H7 (upd H7 q3 (.tup [.str o, .str (revS o)])) := Same.upd hq3
  have e8 : (upd H7 q3 (.tup [.str o, .str (revS o)])) q3 = some (.tup [.str o, .str (revS o)]) := upd_same
  generalize upd H7 q3 (.tup [.str o, .str (revS o)]) = H8 at s8 e8 ⊢
  refine ⟨by show 3 ≤ sizeLine; decide, fun q4 hq4 => ?_⟩
  have s9 : Same H8 (upd H8 q4 (.tup [.ref q1, .ref q2, .ref q3])) := Same.upd hq4
  have e9 : (upd H8 q4 (.tup [.ref q1, .ref q2, .ref q3])) q4 = some (.tup [.ref q1, .ref q2, .ref q3]) := upd_same
  generalize upd H8 q4 (.tup [.ref q1, .ref q2, .ref q3]) = H9 at s9 e9 ⊢
  have s59 := s6.trans (s7.trans (s8.trans s9))
  have s09 := s05.trans s59
  have hM9 := hM.same (s2.trans (s3.trans (s4.trans (s5.trans s59))))
  refine ⟨q4, rfl, ⟨_, SqT.of e9⟩, for_tup (K := K) (a := q4) (xs := [.ref q1, .ref q2, .ref q3]) (fun j σ H' => ∃ o8 o9, σ = [some (.ref p), some (.str M.letters), some (.int B), some vM, some (.int (v1 % k)), some (.int (v2 % (v1 % k + 1))), some (.str o), some (.str r), o8, o9, none, none, none, none] ∧ Same H9 H') ⟨_, _, rfl, Same.refl _⟩ (fun j σ H' _ ⟨_, _, _, q⟩ => SqT.of (q _ _ e9)) ?_ ?_⟩
  · rintro j v σ H10 hv ⟨o8, o9, rfl, s10⟩
    obtain ⟨q, f1, f2, rfl, hq, ho1, ho2, hz1, hz2⟩ : ∃ (q : Addr) (f1 f2 : Str), v = .ref q ∧ H9 q = some (.tup [.str f1, .str f2]) ∧ Over M.letters f1 ∧ Over M.letters f2 ∧ f1.cps.size = m ∧ f2.cps.size = m := by
      have hj : j < 3 := (List.getElem?_eq_some_iff.mp hv).1
      have hj' : j = 0 ∨ j = 1 ∨ j = 2 := by omega
      rcases hj' with rfl | rfl | rfl
      · cases Option.some.inj hv; exact ⟨q1, o, r, rfl, s9 _ _ (s8 _ _ (s7 _ _ e6)), oo, ro, oz, rz⟩
      · cases Option.some.inj hv; exact ⟨q2, o, o, rfl, s9 _ _ (s8 _ _ e7), oo, oo, oz, oz⟩
      · cases Option.some.inj hv; exact ⟨q3, o, revS o, rfl, s9 _ _ e8, oo, rev_o.1, oz, rev_o.2⟩
    refine ⟨q, _, rfl, SqT.of (s10 _ _ hq), rfl, _, _, rfl, _, _, rfl, rfl, ?_⟩
    refine ⟨_, rfl, _, rfl, _, rfl, _, rfl, _, rfl, _, rfl, by show 2 ≤ sizeLine; decide, fun t1 ht1 => ?_⟩
    have s11 : Same H10 (upd H10 t1 (.tup [.str o, .str r])) := Same.upd ht1
    have e11 : (upd H10 t1 (.tup [.str o, .str r])) t1 = some (.tup [.str o, .str r]) := upd_same
    generalize upd H10 t1 (.tup [.str o, .str r]) = H11 at s11 e11 ⊢
    refine ⟨_, rfl, _, rfl, by show 2 ≤ sizeLine; decide, fun t2 ht2 => ?_⟩
    have s12 : Same H11 (upd H11 t2 (.tup [.str r, .str r])) := Same.upd ht2
    have e12 : (upd H11 t2 (.tup [.str r, .str r])) t2 = some (.tup [.str r, .str r]) := upd_same
    generalize upd H11 t2 (.tup [.str r, .str r]) = H12 at s12 e12 ⊢
    refine ⟨by show 2 ≤ sizeLine; decide, fun t3 ht3 => ?_⟩
    have s13 : Same H12 (upd H12 t3 (.lst [.ref t1, .ref t2])) := Same.upd ht3
    have e13 : (upd H12 t3 (.lst [.ref t1, .ref t2])) t3 = some (.lst [.ref t1, .ref t2]) := upd_same
    generalize upd H12 t3 (.lst [.ref t1, .ref t2]) = H13 at s13 e13 ⊢
    have sA := s11.trans (s12.trans s13)
    refine ⟨vM, t3, M, f1, f2, n, [.ref t1, .ref t2], [(o, r), (r, r)], ?_, hM9.same (s10.trans sA), okM, by omega, by omega, hn6, by omega, ho1, ho2, e13, ?_, fun H14 s14 => ⟨_, rfl, iteF ⟨_, _, rfl, s10.trans (sA.trans s14)⟩⟩⟩
    · show [vM, V.str f1, V.str f2, V.int (v1 % k), V.ref t3] = _
      rw [hn]
    · rw [hz1]
      exact .cons ⟨t1, rfl, s13 _ _ (s12 _ _ e11), oo, ro, oz, rz⟩ (.cons ⟨t2, rfl, s13 _ _ e12, ro, ro, rz, rz⟩ .nil)
  rintro σ H10 ⟨o8, o9, rfl, s10⟩
  -- longer words
  have s0A := s09.trans s10
  refine ⟨_, rfl, _, rfl, _, rfl, 5, rfl, by decide, by decide, fun D1 hD1 => lc_range (lo := 0) (n := (5 : Int).toNat) (fun i H' => Same H10 H' ∧ ∃ ds : List Str, H' D1 = some (.lst (ds.map V.str)) ∧ ds.length = i ∧ ∀ d ∈ ds, Over M.letters d ∧ d.cps.size ≤ 100) ⟨Same.upd hD1, [], upd_same, rfl, fun d hd => by cases hd⟩ ?_ ?_⟩
  · rintro i H11 hi ⟨s11, ds, e11, hlen, hds⟩
    refine ⟨rfl, yesT ?_⟩
    refine ⟨_, rfl, _, rfl, _, rfl, _, _, rfl, rfl, _, rfl, p, ms, B + (0 + ((i : Nat) : Int)), M.letters, 12, rfl, SqL.of ((s0A.trans s11) _ _ hp), by omega, hL, by decide, by decide, fun y H12 s12 hy hyz => ?_⟩
    have hi5 : i < 5 := hi
    refine ⟨_, s12 _ _ e11, sz_lt (by rw [List.length_map]; omega), Same.put (s11.trans s12) hD1, ds ++ [y], by rw [upd_same, List.map_append]; rfl, by rw [List.length_append, hlen]; rfl, fun d hd => ?_⟩
    rcases List.mem_append.mp hd with z | z
    · exact hds d z
    · rw [List.mem_singleton.mp z]; exact ⟨hy, by omega⟩
  rintro H11 ⟨s11, ds, e11, hlen, hds⟩
  refine ⟨vM, D1, M, o, r, ds, rfl, hM9.same (s10.trans s11), okM, by omega, by omega, by omega, oo, ro, e11, hds, fun H12 s12 => ⟨_, rfl, iteF ?_⟩⟩
  exact kk _ _ _ _ _ _ _ H12 (s0A.trans (s11.trans s12))
set_option maxHeartbeats 8000000 in
theorem ok_law {f fTa fMa fLt fVa fCe fDr fRi fLr CT CS : Addr} {fd fdTa fdMa fdLt fdVa fdCe fdDr fdRi fdLr : FuncData} (D : Def K mg "law" (top 58) ["_law_script"] f fd) (T : BI mg) (Tmin : mg "min" = none)
    (kT : Kl K mg "Told" CT) (kS : Kl K mg "Same" CS) (kitTT : PySem.W.kitOne K (.ref CT) (.ref CT) = some true) (kitSS : PySem.W.kitOne K (.ref CS) (.ref CS) = some true) (nT : NoAttr K CT "ending")
    {fST fSS : Addr} {fdST fdSS : FuncData} (mST : Meth K CT "shows" fST) (GST : FnOk P w K mg base CX0 4 fST fdST ["self", "machine", "one", "other", "long"] (spShowsT CT)) (bST : Binds K fdST ["self", "machine", "one", "other", "long"] [])
    (mSS : Meth K CS "shows" fSS) (GSS : FnOk P w K mg base CX0 5 fSS fdSS ["self", "machine", "one", "other", "long"] (spShowsS CS)) (bSS : Binds K fdSS ["self", "machine", "one", "other", "long"] [])
    (DTa : Def K mg "told_apart" (top 42) ["machine", "one", "other", "long"] fTa fdTa) (GTa : FnOk P w K mg base CX0 7 fTa fdTa ["machine", "one", "other", "long"] (spTold CT CS))
    (DMa : Def K mg "_law_machine" (top 48) ["_law_script", "_law_by", "_law_letters_here", "_law_most"] fMa fdMa) (GMa : FnOk P w K mg base CX0 3 fMa fdMa ["_law_script", "_law_by", "_law_letters_here", "_law_most"] (spMachine K))
    (DLt : Def K mg "_law_letters" (top 49) ["_law_script"] fLt fdLt) (GLt : FnOk P w K mg base CX0 3 fLt fdLt ["_law_script"] (spLetters K))
    (DVa : Def K mg "_law_value" (top 46) ["_law_cell", "_law_turn"] fVa fdVa) (GVa : FnOk P w K mg base CX0 2 fVa fdVa ["_law_cell", "_law_turn"] spValue)
    (DCe : Def K mg "_law_cell_at" (top 44) ["_law_script", "_law_k"] fCe fdCe) (GCe : FnOk P w K mg base CX0 1 fCe fdCe ["_law_script", "_law_k"] (spCell K))
    (DDr : Def K mg "_law_drawn" (top 53) ["_law_script", "_law_by", "_law_letters_here", "_law_most"] fDr fdDr) (GDr : FnOk P w K mg base CX0 3 fDr fdDr ["_law_script", "_law_by", "_law_letters_here", "_law_most"] (spDrawn K))
    (DRi : Def K mg "_law_right" (top 56) ["_law_machine_here", "_law_one", "_law_other", "_law_long", "_law_besides"] fRi fdRi) (GRi : FnOk P w K mg base CX0 8 fRi fdRi ["_law_machine_here", "_law_one", "_law_other", "_law_long", "_law_besides"] spRightT)
    (DLr : Def K mg "_law_long_right" (top 57) ["_law_machine_here", "_law_one", "_law_other", "_law_drawn_here"] fLr fdLr) (GLr : FnOk P w K mg base CX0 8 fLr fdLr ["_law_machine_here", "_law_one", "_law_other", "_law_drawn_here"] spLongT) : FnOk P w K mg base CX0 10 f fd ["_law_script"] (spLaw K) := by
  refine D.F.ok scLaw (fun vs H Q E h => ?_) (fun cdv A outer s H vs Q E hr h => ?_)
  · obtain ⟨a, ns, rfl, _⟩ := h; rfl
  · obtain ⟨a, ns, rfl, hS, hlen, kk⟩ := h
    obtain ⟨tB, hB, rB⟩ := blk_by (P := P) (w := w) (base := base) (cdv := cdv) (outer := outer) (Hx := H) (E := E) hr T Tmin DTa GTa DMa GMa DLt GLt DVa GVa DCe GCe DDr GDr DRi GRi DLr GLr
    refine' ⟨_, pss_cons (ps_set (i := 0) scLaw.nd rfl (Or.inr rfl) (pe_slice sl_list (pv 0) po_none (po_some pe_int))) (pss_cons (ps_set (i := 1) scLaw.nd rfl (Or.inr rfl) (pe_call GLt (hr.mono (by decide)) (by rfl) DLt.m DLt.F.kp DLt.b .nil pass0 (pa_cons (pv 0) pa_nil))) (pss_cons (ps_for PassesOwn.never rfl (pi_range2 (by rfl) T.range (pa_cons pe_int (pa_cons (pe_callB (call_max2 rfl) (by rfl) T.max (by decide +kernel) (pa_cons pe_int (pa_cons (pe_callB (call_min2 rfl) (by rfl) Tmin (by decide +kernel) (pa_cons pe_int (pa_cons (pe_callB call_len_seq (by rfl) T.len PySem.boot_len (pa_cons (pv 0) pa_nil)) pa_nil))) pa_nil))) pa_nil))) (pg_name (i := 2) scLaw.nd rfl (Or.inr rfl))
        hB) (pss_cons ?smir ?tail))), ?rdg⟩
    case smir =>
      refine' ps_set (i := 11) ?n9 ?h91 ?h92 ?h93
      case n9 => exact scLaw.nd
      case h91 => rfl
      case h92 => exact Or.inl rfl
      case h93 =>
        refine' @pe_cst _ 9 _ (dM mirT) ?hc
        rfl
    case tail => exact pss_cons (ps_par (by rfl) scLaw.nd (i := 12) (j := 13) rfl rfl (by decide) rfl rfl (pa_cons (pe_call GTa (hr.mono (by decide)) (by rfl) DTa.m DTa.F.kp DTa.b .nil pass0 (pa_cons (pv 11) (pa_cons pe_str (pa_cons pe_str (pa_cons pe_int pa_nil))))) (pa_cons (pe_call GTa (hr.mono (by decide)) (by rfl) DTa.m DTa.F.kp DTa.b .nil pass0 (pa_cons (pv 11) (pa_cons pe_str (pa_cons pe_str (pa_cons pe_int pa_nil))))) pa_nil)) (by rfl)) (pss_cons (ps_if (PW.pt (pw_or (pt_not (pt_val (pe_callB call_isinstC (by rfl) T.isinstance (by decide +kernel) (pa_cons (pv 12) (pa_cons (pe_glob (v := .ref CT) (by rfl) kT.m rfl) pa_nil))))) (pw_or (pt_not (pt_val (pe_callB call_isinstC (by rfl) T.isinstance (by decide +kernel) (pa_cons (pv 13) (pa_cons (pe_glob (v := .ref CT) (by rfl) kT.m rfl) pa_nil))))) (pw_or1 (pt_cmpR op_ne (pe_fld (pv 12) rfl) pe_str (nomark _)))))) (pss_one (ps_ret pe_bl)) pss_nil) (pss_cons (ps_if (pt_not (pt_val (pe_callB call_isinstC (by rfl) T.isinstance (by decide +kernel) (pa_cons (pe_call GTa (hr.mono (by decide)) (by rfl) DTa.m DTa.F.kp DTa.b .nil pass0 (pa_cons (pv 11) (pa_cons pe_str (pa_cons pe_str (pa_cons pe_int pa_nil))))) (pa_cons (pe_glob (v := .ref CS) (by rfl) kS.m rfl) pa_nil))))) (pss_one (ps_ret pe_bl)) pss_nil) (pss_cons (ps_if (pt_cmpR op_isnot_bl (pe_either (pe_meth (pe_call GTa (hr.mono (by decide)) (by rfl) DTa.m DTa.F.kp DTa.b .nil pass0 (pa_cons (pv 11) (pa_cons pe_str (pa_cons pe_str (pa_cons pe_int pa_nil))))) kT.cl mST GST (hr.mono (by decide)) bST .nil pass0 (pa_cons (pv 11) (pa_cons pe_str (pa_cons pe_str (pa_cons pe_int pa_nil))))) (pe_meth (pe_call GTa (hr.mono (by decide)) (by rfl) DTa.m DTa.F.kp DTa.b .nil pass0 (pa_cons (pv 11) (pa_cons pe_str (pa_cons pe_str (pa_cons pe_int pa_nil))))) kS.cl mSS GSS (hr.mono (by decide)) bSS .nil pass0 (pa_cons (pv 11) (pa_cons pe_str (pa_cons pe_str (pa_cons pe_int pa_nil)))))) pe_bl (nomark _)) (pss_one (ps_ret pe_bl)) pss_nil) (pss_one (ps_ret (pe_cmpR op_eq (pe_fld (pv 13) rfl) pe_str (nomark _)))))))
    case rdg =>
      refine ⟨_, rfl, _, rfl, a, _, rfl, hS, fun p hp => ?_⟩
      obtain ⟨ms, ems, hms⟩ : ∃ ms : List Int, cutV (ns.map V.int) none (some 63) = ms.map V.int ∧ ms.length ≤ 63 := by
        refine ⟨(ns.drop (HT.sIx (ns.map V.int).length 0 none)).take (HT.sIx (ns.map V.int).length (ns.map V.int).length (some 63) - HT.sIx (ns.map V.int).length 0 none), ?_, ?_⟩
        · unfold cutV; rw [List.map_take, List.map_drop]
        · rw [List.length_take, List.length_drop]; omega
      rw [ems]
      have sPp : Same H (upd H p (.lst (ms.map V.int))) := Same.upd hp
      have hpS : (upd H p (.lst (ms.map V.int))) p = some (.lst (ms.map V.int)) := upd_same
      generalize upd H p (.lst (ms.map V.int)) = Hs at sPp hpS ⊢
      -- letters
      refine ⟨_, rfl, p, ms, rfl, SqL.of hpS, fun L H0 hL s0 => ?_⟩
      have hp0 := s0 _ _ hpS
      have hml : (ms.map V.int).length ≤ 63 := by rw [List.length_map]; exact hms
      -- for by in range(..)
      refine ⟨_, rfl, p, _, rfl, .inl (SqL.of hp0), _, _, rfl, _, _, rfl, ?_⟩
      generalize hj : (if (if (((ms.map V.int).length : Nat) : Int) < 2 then (((ms.map V.int).length : Nat) : Int) else 2) > 1 then (if (((ms.map V.int).length : Nat) : Int) < 2 then (((ms.map V.int).length : Nat) : Int) else 2) else 1) = jj
      obtain ⟨j0, j2⟩ := rg2T hml hj.symm
      refine ⟨_, _, rfl, ⟨by decide, by decide, by omega, by omega⟩, for_range (lo := 0) (n := (jj - 0).toNat) (fun i σ H' => ∃ o2 o3 o4 o5 o6 o7 o8 o9, σ = [some (.ref p), some (.str L), o2, o3, o4, o5, o6, o7, o8, o9, none, none, none, none] ∧ Same H0 H') ⟨none, none, none, none, none, none, none, none, rfl, Same.refl _⟩ ?_ ?_⟩
      · rintro i σ H1 hi ⟨o2, o3, o4, o5, o6, o7, o8, o9, rfl, sS1⟩
        exact rB _ _ _ ⟨p, ms, L, _, o3, o4, o5, o6, o7, o8, o9, rfl, sS1 _ _ hp0, by omega, hL, fun o3 o4 o5 o6 o7 o8 o9 H' s' => ⟨_, _, _, _, _, _, _, _, rfl, sS1.trans s'⟩⟩
      rintro σ H1 ⟨o2, o3, o4, o5, o6, o7, o8, o9, rfl, sS1⟩
      -- written ones
      intro vt H2 s2 tt
      have hT := MAt.of_tk (M := mirT) tt
      refine ⟨_, rfl, vt, mirT, "ab", "ba", 4, rfl, hT, ok_mirT, by decide, by decide, by decide, ovM (by decide +kernel), ovM (by decide +kernel), by decide, fun x1 dx1 y1 H3 hd1 s3 hx10 hx1 => ?_, fun x dx H3 he _ _ _ => absurd he (by decide +kernel)⟩
      have ey1 : y1 = "ab" := strOfL (l := [97, 98]) (Option.some.inj (hd1.symm.trans (show _ = some [97, 98] by decide +kernel)))
      subst ey1
      have hT3 := hT.same s3
      refine ⟨_, rfl, vt, mirT, "aa", "bb", 3, rfl, hT3, ok_mirT, by decide, by decide, by decide, ovM (by decide +kernel), ovM (by decide +kernel), by decide, fun x2 dx2 y2 H4 hd2 s4 hx20 hx2 => ?_, fun x dx H4 he _ _ _ => absurd he (by decide +kernel)⟩
      have ey2 : y2 = "a" := strOfL (l := [97]) (Option.some.inj (hd2.symm.trans (show _ = some [97] by decide +kernel)))
      subst ey2
      have hT4 := hT3.same s4
      have hx1' := s4 _ _ hx1
      refine ⟨_, _, rfl, ?_⟩
      refine ⟨_, rfl, .ref x1, CT, _, true, rfl, kT.ty hx1', kitTT, _, rfl, iteF ?_⟩
      refine ⟨_, rfl, .ref x2, CT, _, true, rfl, kT.ty hx2, kitTT, _, rfl, iteF ?_⟩
      refine ⟨_, rfl, x1, CT, dx1, _, _, rfl, hx1', kT.cl, nT, rfl, rfl, _, rfl, ?_⟩
      rw [decide_eq_true (show V.str "ab" = V.str "ab" from rfl)]
      refine iteF ?_
      -- the same
      refine ⟨_, rfl, vt, mirT, "ab", "ab", 3, rfl, hT4, ok_mirT, by decide, by decide, by decide, ovM (by decide +kernel), ovM (by decide +kernel), by decide, fun x dx y H5 hd _ _ _ => absurd hd (by rw [show px mirT 3 ("ab" : Str).cps.toList ("ab" : Str).cps.toList = [] by decide +kernel]; simp), fun x3 dx3 H5 _ s5 _ hx3 => ?_⟩
      have hT5 := hT4.same s5
      refine ⟨.ref x3, CS, _, true, rfl, kS.ty hx3, kitSS, _, rfl, iteF ?_⟩
      -- the shortest
      refine .inr ⟨_, rfl, vt, mirT, "a", "b", 1, rfl, hT5, ok_mirT, by decide, by decide, by decide, ovM (by decide +kernel), ovM (by decide +kernel), by decide, fun x dx y H6 hd _ _ _ => absurd hd (by rw [show px mirT 1 ("a" : Str).cps.toList ("b" : Str).cps.toList = [] by decide +kernel]; simp), fun x4 dx4 H6 _ s6 _ hx4 => ?_⟩
      have hT6 := hT5.same s6
      refine ⟨x4, dx4, _, rfl, hx4, rfl, _, rfl, x4, dx4, vt, mirT, "a", "b", 1, rfl, hx4, hT6, ok_mirT, by decide, by decide, by decide, ovM (by decide +kernel), ovM (by decide +kernel), by decide, fun c H7 s7 hc => ?_⟩
      have ec : c = true := hc.mpr fun z => px_prt.mpr z (by decide +kernel)
      subst ec
      refine ⟨_, _, rfl, rfl, _, rfl, iteF ?_⟩
      have hx2' := s7 _ _ (s6 _ _ (s5 _ _ hx2))
      refine ⟨_, rfl, x2, CT, dx2, _, _, rfl, hx2', kT.cl, nT, rfl, rfl, ?_⟩
      rw [decide_eq_true (show V.str "a" = V.str "a" from rfl)]
      exact kk _
end
end Be

namespace Be
open PySem L2
/-- a def as the top has written it -/
structure Wr (K : PySem.W.Frag) (x : Str) (st : Stmt) (f : Addr) (fd : FuncData) : Prop where
  a : PySem.W.nsIn K mainGlobals x = some (some (.ref f))
  F : Fun K x x st f fd
theorem Wr.mk' {K : PySem.W.Frag} {x : Str} {st : Stmt} {f : Addr} {oc : Value} {od an : Option Addr} {osl : Array (Option Value)} {kV doc pm cdv ct : Value} (a : PySem.W.nsIn K mainGlobals x = some (some (.ref f)))
    (l : K.lookup f = some ⟨oc, od, .func (PySem.W.fnOf x x (defArgs st) (defBody st) (defScope st) .none kV doc pm an cdv ct), osl⟩) (c : PySem.W.codeIn K cdv x = true) (k : PySem.W.keepIn K (.ref f) = true) :
    Wr K x st f (PySem.W.fnOf x x (defArgs st) (defBody st) (defScope st) .none kV doc pm an cdv ct) := ⟨a, fun_mk l c k⟩
theorem Wr.def {K : PySem.W.Frag} {mg : Str → Option Value} {h : Heap} {x : Str} {st : Stmt} {f : Addr} {fd : FuncData} {ps : List Str} (W : Wr K x st f fd) (X : K.In h) (G : h.Ns mainGlobals mg) (b : Binds K fd ps []) : Def K mg x st ps f fd := ⟨W.F, b, PySem.W.mg_of X G W.a⟩
structure WrM (K : PySem.W.Frag) (C : Addr) (m qual : Str) (st : Stmt) (f : Addr) (fd : FuncData) : Prop where
  M : Meth K C m f
  F : Fun K m qual st f fd
theorem WrM.mk' {K : PySem.W.Frag} {C : Addr} {m qual : Str} {st : Stmt} {f : Addr} {oc : Value} {od an : Option Addr} {osl : Array (Option Value)} {kV doc pm cdv ct : Value} (a : PySem.W.findIn K (.ref C) m = some (some (.ref f))) (i : PySem.W.isFn K (.ref f) = true)
    (l : K.lookup f = some ⟨oc, od, .func (PySem.W.fnOf m qual (defArgs st) (defBody st) (defScope st) .none kV doc pm an cdv ct), osl⟩) (c : PySem.W.codeIn K cdv qual = true) (k : PySem.W.keepIn K (.ref f) = true) :
    WrM K C m qual st f (PySem.W.fnOf m qual (defArgs st) (defBody st) (defScope st) .none kV doc pm an cdv ct) := ⟨⟨a, i, k⟩, fun_mk l c k⟩
structure WrC (K : PySem.W.Frag) (x : Str) (C : Addr) : Prop where
  a : PySem.W.nsIn K mainGlobals x = some (some (.ref C))
  pg : PySem.W.plainGet K C Str.empty = true
  hd : PySem.W.hasDictIn K C = true
  po : PySem.W.plainOver K C = true
  sa : PySem.W.findIn K (.ref C) "__setattr__" = some (some (.builtin "object.__setattr__"))
  cA : PySem.W.findIn K (.ref C) "__class__" = some (some (.builtin "object.__class__"))
  cN : PySem.W.specialIn K (.builtin "object.__class__") "__get__" = some (some (.builtin "getset_descriptor.__get__"))
  cT : PySem.W.takesIn K (.builtin "object.__class__") = some true
  cM : PySem.W.mroIn K C (.type "object") = some true
  mk_ : PySem.W.makesIn K C = true
  kc : PySem.W.keepIn K (.ref C) = true
theorem WrC.kl {K : PySem.W.Frag} {mg : Str → Option Value} {h : Heap} {x : Str} {C : Addr} (W : WrC K x C) (X : K.In h) (G : h.Ns mainGlobals mg) : Kl K mg x C := ⟨PySem.W.mg_of X G W.a, ⟨W.pg, W.hd, W.po, W.sa⟩, W.cA, W.cN, W.cT, W.cM⟩
set_option maxHeartbeats 4000000 in
theorem all_mk {l : PySem.W.OpenLaw} {w : World} {K : PySem.W.Frag} {h : Heap} {mg : Str → Option Value} {fa : Addr} {f7 f8 f9 fIS f10 f11 f12 f13 f14 fTO f15 f16 fCW fCL f21 f22 fRD fSP fCH fMV fPB fSE fFE fTA f26 f27 f28 fSA f31 f32 f33 f34 f35 f37 fEN fDU fRI fLR f39 : Addr} {fd7 fd8 fd9 fdIS fd10 fd11 fd12 fd13 fd14 fdTO fd15 fd16 fdCW fdCL fd21 fd22 fdRD fdSP fdCH fdMV fdPB fdSE fdFE fdTA fd26 fd27 fd28 fdSA fd31 fd32 fd33 fd34 fd35 fd37 fdEN fdDU fdRI fdLR fd39 : FuncData} {tml tms tMOST_LONG : Tok} {CAn : Addr}  {CAl : Addr}  {CAp : Addr}  {CF : Addr}  {CE : Addr}  {CT fTi fTs : Addr} {fdTi fdTs : FuncData} {CS fSs : Addr} {fdSs : FuncData} (X : K.In h) (G : h.Ns mainGlobals mg) (hfa : mg "law" = some (.ref fa))
    (W7 : Wr K "is_number" (top 8) f7 fd7)
    (W8 : Wr K "is_list_of" (top 9) f8 fd8)
    (W9 : Wr K "are_letters" (top 10) f9 fd9)
    (WIS : Wr K "is_state" (top 11) fIS fdIS)
    (W10 : Wr K "are_states" (top 12) f10 fd10)
    (W11 : Wr K "are_truths" (top 13) f11 fd11)
    (W12 : Wr K "are_moves" (top 14) f12 fd12)
    (W13 : Wr K "are_middles" (top 15) f13 fd13)
    (W14 : Wr K "is_machine" (top 16) f14 fd14)
    (WTO : Wr K "is_text_of" (top 17) fTO fdTO)
    (W15 : Wr K "check_machine" (top 18) f15 fd15)
    (W16 : Wr K "check_word" (top 19) f16 fd16)
    (WCW : Wr K "check_two_words" (top 20) fCW fdCW)
    (WCL : Wr K "check_length" (top 21) fCL fdCL)
    (W21 : Wr K "pair_at" (top 23) f21 fd21)
    (W22 : Wr K "state_behind" (top 24) f22 fd22)
    (WRD : Wr K "reads" (top 25) fRD fdRD)
    (WSP : Wr K "is_state_pair" (top 27) fSP fdSP)
    (WCH : Wr K "choices_at" (top 28) fCH fdCH)
    (WMV : Wr K "moves_at" (top 29) fMV fdMV)
    (WPB : Wr K "pairs_behind" (top 30) fPB fdPB)
    (WSE : Wr K "some_ending_parts" (top 31) fSE fdSE)
    (WFE : Wr K "first_ending" (top 41) fFE fdFE)
    (WTA : Wr K "told_apart" (top 42) fTA fdTA)
    (W26 : Wr K "_law_cell_at" (top 44) f26 fd26)
    (W27 : Wr K "_law_draw" (top 45) f27 fd27)
    (W28 : Wr K "_law_value" (top 46) f28 fd28)
    (WSA : Wr K "_law_says" (top 47) fSA fdSA)
    (W31 : Wr K "_law_machine" (top 48) f31 fd31)
    (W32 : Wr K "_law_letters" (top 49) f32 fd32)
    (W33 : Wr K "_law_copy" (top 50) f33 fd33)
    (W34 : Wr K "_law_has" (top 51) f34 fd34)
    (W35 : Wr K "_law_texts" (top 52) f35 fd35)
    (W37 : Wr K "_law_drawn" (top 53) f37 fd37)
    (WEN : Wr K "_law_ends" (top 54) fEN fdEN)
    (WDU : Wr K "_law_due" (top 55) fDU fdDU)
    (WRI : Wr K "_law_right" (top 56) fRI fdRI)
    (WLR : Wr K "_law_long_right" (top 57) fLR fdLR)
    (W39 : Wr K "law" (top 58) f39 fd39)
    (WAn : WrC K "Answer" CAn)
    (WAl : WrC K "Alike" CAl)
    (WAp : WrC K "Apart" CAp)
    (WF : WrC K "First" CF)
    (WE : WrC K "Empty" CE)
    (WT : WrC K "Told" CT)
    (WTi : WrM K CT "__init__" "Told.__init__" (stN (clsB (top 37)) 0) fTi fdTi)
    (WTs : WrM K CT "shows" "Told.shows" (stN (clsB (top 37)) 1) fTs fdTs)
    (n_T_ending : PySem.W.findIn K (.ref CT) "ending" = some none)
    (WS : WrC K "Same" CS)
    (WSs : WrM K CS "shows" "Same.shows" (stN (clsB (top 38)) 0) fSs fdSs)
    (i0_S : PySem.W.findIn K (.ref CS) "__init__" = some (some (.builtin "object.__init__")))
    (kit_T_An : PySem.W.kitOne K (.ref CT) (.ref CAn) = some true)
    (kit_T_T : PySem.W.kitOne K (.ref CT) (.ref CT) = some true)
    (kit_T_S : PySem.W.kitOne K (.ref CT) (.ref CS) = some false)
    (kit_T_Al : PySem.W.kitOne K (.ref CT) (.ref CAl) = some false)
    (kit_T_Ap : PySem.W.kitOne K (.ref CT) (.ref CAp) = some false)
    (kit_T_F : PySem.W.kitOne K (.ref CT) (.ref CF) = some false)
    (kit_T_E : PySem.W.kitOne K (.ref CT) (.ref CE) = some false)
    (kit_S_An : PySem.W.kitOne K (.ref CS) (.ref CAn) = some true)
    (kit_S_T : PySem.W.kitOne K (.ref CS) (.ref CT) = some false)
    (kit_S_S : PySem.W.kitOne K (.ref CS) (.ref CS) = some true)
    (kit_S_Al : PySem.W.kitOne K (.ref CS) (.ref CAl) = some false)
    (kit_S_Ap : PySem.W.kitOne K (.ref CS) (.ref CAp) = some false)
    (kit_S_F : PySem.W.kitOne K (.ref CS) (.ref CF) = some false)
    (kit_S_E : PySem.W.kitOne K (.ref CS) (.ref CE) = some false)
    (c_ml : PySem.W.nsIn K mainGlobals "MOST_LETTERS" = some (some (.int 3 tml)))
    (c_ms : PySem.W.nsIn K mainGlobals "MOST_STATES" = some (some (.int 40 tms)))
    (c_MOST_LONG : PySem.W.nsIn K mainGlobals "MOST_LONG" = some (some (.int 12 tMOST_LONG)))
    (z_isinstance : PySem.W.nsIn K mainGlobals "isinstance" = some none)
    (z_int : PySem.W.nsIn K mainGlobals "int" = some none)
    (z_bool : PySem.W.nsIn K mainGlobals "bool" = some none)
    (z_str : PySem.W.nsIn K mainGlobals "str" = some none)
    (z_list : PySem.W.nsIn K mainGlobals "list" = some none)
    (z_tuple : PySem.W.nsIn K mainGlobals "tuple" = some none)
    (z_len : PySem.W.nsIn K mainGlobals "len" = some none)
    (z_all : PySem.W.nsIn K mainGlobals "all" = some none)
    (z_zip : PySem.W.nsIn K mainGlobals "zip" = some none)
    (z_range : PySem.W.nsIn K mainGlobals "range" = some none)
    (z_max : PySem.W.nsIn K mainGlobals "max" = some none)
    (z_enumerate : PySem.W.nsIn K mainGlobals "enumerate" = some none)
    (z_any : PySem.W.nsIn K mainGlobals "any" = some none)
    (z_min : PySem.W.nsIn K mainGlobals "min" = some none)
    (z_sorted : PySem.W.nsIn K mainGlobals "sorted" = some none)
    (hbl : ∀ (s : Shared) (v : Value), BindsTo s fd39 ⟨[v], []⟩ [("_law_script", v)]) :
    ∃ fd : FuncData, (∀ (s : Shared) (v : Value), BindsTo s fd ⟨[v], []⟩ [("_law_script", v)]) ∧ ∀ base : Heap, K.In base → base.Ns mainGlobals mg → FnOk l.prog w K mg base CX0 10 fa fd ["_law_script"] (spLaw K) := by
  have e := hfa.symm.trans (PySem.W.mg_of X G W39.a)
  cases e
  have T : BI mg := ⟨PySem.W.mg_none_of X G z_isinstance, PySem.W.mg_none_of X G z_int, PySem.W.mg_none_of X G z_bool, PySem.W.mg_none_of X G z_str, PySem.W.mg_none_of X G z_list, PySem.W.mg_none_of X G z_tuple, PySem.W.mg_none_of X G z_len, PySem.W.mg_none_of X G z_all, PySem.W.mg_none_of X G z_zip, PySem.W.mg_none_of X G z_range, PySem.W.mg_none_of X G z_max, PySem.W.mg_none_of X G z_enumerate⟩
  have Tany : mg "any" = none := PySem.W.mg_none_of X G z_any
  have Tmin : mg "min" = none := PySem.W.mg_none_of X G z_min
  have Tsorted : mg "sorted" = none := PySem.W.mg_none_of X G z_sorted
  have C : CO mg := ⟨⟨_, PySem.W.mg_of X G c_ml⟩, ⟨_, PySem.W.mg_of X G c_ms⟩⟩
  have C_MOST_LONG : ∃ t, mg "MOST_LONG" = some (.int 12 t) := ⟨_, PySem.W.mg_of X G c_MOST_LONG⟩
  have D7 : Def K mg "is_number" (top 8) ["value"] f7 fd7 := W7.def X G (W7.F.binds (ps := ["value"]) fun _ _ _ _ _ _ us hl => match us, hl with | [_], _ => rfl)
  have D8 : Def K mg "is_list_of" (top 9) ["value", "many"] f8 fd8 := W8.def X G (W8.F.binds (ps := ["value", "many"]) fun _ _ _ _ _ _ us hl => match us, hl with | [_, _], _ => rfl)
  have D9 : Def K mg "are_letters" (top 10) ["value"] f9 fd9 := W9.def X G (W9.F.binds (ps := ["value"]) fun _ _ _ _ _ _ us hl => match us, hl with | [_], _ => rfl)
  have DIS : Def K mg "is_state" (top 11) ["value", "states"] fIS fdIS := WIS.def X G (WIS.F.binds (ps := ["value", "states"]) fun _ _ _ _ _ _ us hl => match us, hl with | [_, _], _ => rfl)
  have D10 : Def K mg "are_states" (top 12) ["value", "many", "states"] f10 fd10 := W10.def X G (W10.F.binds (ps := ["value", "many", "states"]) fun _ _ _ _ _ _ us hl => match us, hl with | [_, _, _], _ => rfl)
  have D11 : Def K mg "are_truths" (top 13) ["value", "many"] f11 fd11 := W11.def X G (W11.F.binds (ps := ["value", "many"]) fun _ _ _ _ _ _ us hl => match us, hl with | [_, _], _ => rfl)
  have D12 : Def K mg "are_moves" (top 14) ["value", "many", "most"] f12 fd12 := W12.def X G (W12.F.binds (ps := ["value", "many", "most"]) fun _ _ _ _ _ _ us hl => match us, hl with | [_, _, _], _ => rfl)
  have D13 : Def K mg "are_middles" (top 15) ["value", "states", "many"] f13 fd13 := W13.def X G (W13.F.binds (ps := ["value", "states", "many"]) fun _ _ _ _ _ _ us hl => match us, hl with | [_, _, _], _ => rfl)
  have D14 : Def K mg "is_machine" (top 16) ["value"] f14 fd14 := W14.def X G (W14.F.binds (ps := ["value"]) fun _ _ _ _ _ _ us hl => match us, hl with | [_], _ => rfl)
  have DTO : Def K mg "is_text_of" (top 17) ["letters", "value"] fTO fdTO := WTO.def X G (WTO.F.binds (ps := ["letters", "value"]) fun _ _ _ _ _ _ us hl => match us, hl with | [_, _], _ => rfl)
  have D15 : Def K mg "check_machine" (top 18) ["machine"] f15 fd15 := W15.def X G (W15.F.binds (ps := ["machine"]) fun _ _ _ _ _ _ us hl => match us, hl with | [_], _ => rfl)
  have D16 : Def K mg "check_word" (top 19) ["letters", "word", "most"] f16 fd16 := W16.def X G (W16.F.binds (ps := ["letters", "word", "most"]) fun _ _ _ _ _ _ us hl => match us, hl with | [_, _, _], _ => rfl)
  have DCW : Def K mg "check_two_words" (top 20) ["letters", "one", "other", "most"] fCW fdCW := WCW.def X G (WCW.F.binds (ps := ["letters", "one", "other", "most"]) fun _ _ _ _ _ _ us hl => match us, hl with | [_, _, _, _], _ => rfl)
  have DCL : Def K mg "check_length" (top 21) ["long", "fewest", "most"] fCL fdCL := WCL.def X G (WCL.F.binds (ps := ["long", "fewest", "most"]) fun _ _ _ _ _ _ us hl => match us, hl with | [_, _, _], _ => rfl)
  have D21 : Def K mg "pair_at" (top 23) ["letters", "first", "last"] f21 fd21 := W21.def X G (W21.F.binds (ps := ["letters", "first", "last"]) fun _ _ _ _ _ _ us hl => match us, hl with | [_, _, _], _ => rfl)
  have D22 : Def K mg "state_behind" (top 24) ["machine", "left", "right"] f22 fd22 := W22.def X G (W22.F.binds (ps := ["machine", "left", "right"]) fun _ _ _ _ _ _ us hl => match us, hl with | [_, _, _], _ => rfl)
  have DRD : Def K mg "reads" (top 25) ["machine", "word"] fRD fdRD := WRD.def X G (WRD.F.binds (ps := ["machine", "word"]) fun _ _ _ _ _ _ us hl => match us, hl with | [_, _], _ => rfl)
  have DSP : Def K mg "is_state_pair" (top 27) ["value", "one", "other"] fSP fdSP := WSP.def X G (WSP.F.binds (ps := ["value", "one", "other"]) fun _ _ _ _ _ _ us hl => match us, hl with | [_, _, _], _ => rfl)
  have DCH : Def K mg "choices_at" (top 28) ["letters", "one", "other", "place"] fCH fdCH := WCH.def X G (WCH.F.binds (ps := ["letters", "one", "other", "place"]) fun _ _ _ _ _ _ us hl => match us, hl with | [_, _, _, _], _ => rfl)
  have DMV : Def K mg "moves_at" (top 29) ["letters", "one", "other", "long", "place"] fMV fdMV := WMV.def X G (WMV.F.binds (ps := ["letters", "one", "other", "long", "place"]) fun _ _ _ _ _ _ us hl => match us, hl with | [_, _, _, _, _], _ => rfl)
  have DPB : Def K mg "pairs_behind" (top 30) ["machine", "one", "other", "long"] fPB fdPB := WPB.def X G (WPB.F.binds (ps := ["machine", "one", "other", "long"]) fun _ _ _ _ _ _ us hl => match us, hl with | [_, _, _, _], _ => rfl)
  have DSE : Def K mg "some_ending_parts" (top 31) ["machine", "one", "other", "long"] fSE fdSE := WSE.def X G (WSE.F.binds (ps := ["machine", "one", "other", "long"]) fun _ _ _ _ _ _ us hl => match us, hl with | [_, _, _, _], _ => rfl)
  have DFE : Def K mg "first_ending" (top 41) ["machine", "one", "other", "long"] fFE fdFE := WFE.def X G (WFE.F.binds (ps := ["machine", "one", "other", "long"]) fun _ _ _ _ _ _ us hl => match us, hl with | [_, _, _, _], _ => rfl)
  have DTA : Def K mg "told_apart" (top 42) ["machine", "one", "other", "long"] fTA fdTA := WTA.def X G (WTA.F.binds (ps := ["machine", "one", "other", "long"]) fun _ _ _ _ _ _ us hl => match us, hl with | [_, _, _, _], _ => rfl)
  have D26 : Def K mg "_law_cell_at" (top 44) ["_law_script", "_law_k"] f26 fd26 := W26.def X G (W26.F.binds (ps := ["_law_script", "_law_k"]) fun _ _ _ _ _ _ us hl => match us, hl with | [_, _], _ => rfl)
  have D27 : Def K mg "_law_draw" (top 45) ["_law_cell", "_law_k", "_law_many"] f27 fd27 := W27.def X G (W27.F.binds (ps := ["_law_cell", "_law_k", "_law_many"]) fun _ _ _ _ _ _ us hl => match us, hl with | [_, _, _], _ => rfl)
  have D28 : Def K mg "_law_value" (top 46) ["_law_cell", "_law_turn"] f28 fd28 := W28.def X G (W28.F.binds (ps := ["_law_cell", "_law_turn"]) fun _ _ _ _ _ _ us hl => match us, hl with | [_, _], _ => rfl)
  have DSA : Def K mg "_law_says" (top 47) ["_law_said", "_law_due_here"] fSA fdSA := WSA.def X G (WSA.F.binds (ps := ["_law_said", "_law_due_here"]) fun _ _ _ _ _ _ us hl => match us, hl with | [_, _], _ => rfl)
  have D31 : Def K mg "_law_machine" (top 48) ["_law_script", "_law_by", "_law_letters_here", "_law_most"] f31 fd31 := W31.def X G (W31.F.binds (ps := ["_law_script", "_law_by", "_law_letters_here", "_law_most"]) fun _ _ _ _ _ _ us hl => match us, hl with | [_, _, _, _], _ => rfl)
  have D32 : Def K mg "_law_letters" (top 49) ["_law_script"] f32 fd32 := W32.def X G (W32.F.binds (ps := ["_law_script"]) fun _ _ _ _ _ _ us hl => match us, hl with | [_], _ => rfl)
  have D33 : Def K mg "_law_copy" (top 50) ["_law_machine_here"] f33 fd33 := W33.def X G (W33.F.binds (ps := ["_law_machine_here"]) fun _ _ _ _ _ _ us hl => match us, hl with | [_], _ => rfl)
  have D34 : Def K mg "_law_has" (top 51) ["_law_machine_here", "_law_word", "_law_state"] f34 fd34 := W34.def X G (W34.F.binds (ps := ["_law_machine_here", "_law_word", "_law_state"]) fun _ _ _ _ _ _ us hl => match us, hl with | [_, _, _], _ => rfl)
  have D35 : Def K mg "_law_texts" (top 52) ["_law_letters_here", "_law_long"] f35 fd35 := W35.def X G (W35.F.binds (ps := ["_law_letters_here", "_law_long"]) fun _ _ _ _ _ _ us hl => match us, hl with | [_, _], _ => rfl)
  have D37 : Def K mg "_law_drawn" (top 53) ["_law_script", "_law_by", "_law_letters_here", "_law_most"] f37 fd37 := W37.def X G (W37.F.binds (ps := ["_law_script", "_law_by", "_law_letters_here", "_law_most"]) fun _ _ _ _ _ _ us hl => match us, hl with | [_, _, _, _], _ => rfl)
  have DEN : Def K mg "_law_ends" (top 54) ["_law_machine_here", "_law_one", "_law_other", "_law_long"] fEN fdEN := WEN.def X G (WEN.F.binds (ps := ["_law_machine_here", "_law_one", "_law_other", "_law_long"]) fun _ _ _ _ _ _ us hl => match us, hl with | [_, _, _, _], _ => rfl)
  have DDU : Def K mg "_law_due" (top 55) ["_law_machine_here", "_law_one", "_law_other", "_law_long", "_law_found"] fDU fdDU := WDU.def X G (WDU.F.binds (ps := ["_law_machine_here", "_law_one", "_law_other", "_law_long", "_law_found"]) fun _ _ _ _ _ _ us hl => match us, hl with | [_, _, _, _, _], _ => rfl)
  have DRI : Def K mg "_law_right" (top 56) ["_law_machine_here", "_law_one", "_law_other", "_law_long", "_law_besides"] fRI fdRI := WRI.def X G (WRI.F.binds (ps := ["_law_machine_here", "_law_one", "_law_other", "_law_long", "_law_besides"]) fun _ _ _ _ _ _ us hl => match us, hl with | [_, _, _, _, _], _ => rfl)
  have DLR : Def K mg "_law_long_right" (top 57) ["_law_machine_here", "_law_one", "_law_other", "_law_drawn_here"] fLR fdLR := WLR.def X G (WLR.F.binds (ps := ["_law_machine_here", "_law_one", "_law_other", "_law_drawn_here"]) fun _ _ _ _ _ _ us hl => match us, hl with | [_, _, _, _], _ => rfl)
  have D39 : Def K mg "law" (top 58) ["_law_script"] fa fd39 := W39.def X G (W39.F.binds (ps := ["_law_script"]) fun _ _ _ _ _ _ us hl => match us, hl with | [_], _ => rfl)
  have kAn : Kl K mg "Answer" CAn := WAn.kl X G
  have kAl : Kl K mg "Alike" CAl := WAl.kl X G
  have kAp : Kl K mg "Apart" CAp := WAp.kl X G
  have kF : Kl K mg "First" CF := WF.kl X G
  have kE : Kl K mg "Empty" CE := WE.kl X G
  have kT : Kl K mg "Told" CT := WT.kl X G
  have bTi : Binds K fdTi ["self", "ending"] [] := WTi.F.binds (ps := ["self", "ending"]) fun _ _ _ _ _ _ us hl => match us, hl with | [_, _], _ => rfl
  have MIT : Mk K CT fTi := ⟨WT.mk_, WTi.M.at_, WTi.M.fn, WT.kc⟩
  have bTs : Binds K fdTs ["self", "machine", "one", "other", "long"] [] := WTs.F.binds (ps := ["self", "machine", "one", "other", "long"]) fun _ _ _ _ _ _ us hl => match us, hl with | [_, _, _, _, _], _ => rfl
  have kS : Kl K mg "Same" CS := WS.kl X G
  have bSs : Binds K fdSs ["self", "machine", "one", "other", "long"] [] := WSs.F.binds (ps := ["self", "machine", "one", "other", "long"]) fun _ _ _ _ _ _ us hl => match us, hl with | [_, _, _, _, _], _ => rfl
  refine ⟨fd39, hbl, fun base _ _ => ?_⟩
  have MIS : Mk0 K CS := ⟨WS.mk_, i0_S, WS.kc⟩
  have G9 := ok_areletters (P := l.prog) (w := w) (base := base) D9 T C
  have GIS := ok_isstate (P := l.prog) (w := w) (base := base) DIS T D7
  have G10 := ok_arestates (P := l.prog) (w := w) (base := base) D10 T DIS GIS D8
  have G11 := ok_aretruths (P := l.prog) (w := w) (base := base) D11 T D8
  have G12 := ok_aremoves (P := l.prog) (w := w) (base := base) D12 T D10 G10
  have G13 := ok_aremiddles (P := l.prog) (w := w) (base := base) D13 T D8 D11
  have G14 := ok_ismachine (P := l.prog) (w := w) (base := base) D14 T C D9 G9 D12 G12 D11 G11 D13 G13
  have G15 := ok_checkmachine (P := l.prog) (w := w) (base := base) D15 D14 G14
  have GTO := ok_istextof (P := l.prog) (w := w) (base := base) DTO T
  have G16 := ok_checkword (P := l.prog) (w := w) (base := base) D16 T DTO
  have GCW := ok_checktwo (P := l.prog) (w := w) (base := base) DCW T D16 G16
  have G7 := ok_isnumber (P := l.prog) (w := w) (base := base) D7 T
  have GCL := ok_checklength (P := l.prog) (w := w) (base := base) DCL T D7 G7
  have G22 := ok_statebehind (P := l.prog) (w := w) (base := base) D22 T D21
  have GRD := ok_reads (P := l.prog) (w := w) (base := base) DRD T D22 G22
  have GCH := ok_choices (P := l.prog) (w := w) (base := base) DCH T
  have G21 := ok_pairat (P := l.prog) (w := w) (base := base) D21 T
  have GMV := ok_moves (P := l.prog) (w := w) (base := base) DMV T DCH GCH D21 G21
  have GPB := ok_pairsB (P := l.prog) (w := w) (base := base) DPB T Tsorted DMV GMV
  have GSE := ok_some (P := l.prog) (w := w) (base := base) DSE T Tany DCH GCH DPB GPB
  have GTi := ok_initTold (P := l.prog) (w := w) (base := base) (mg := mg) WTi.F kT.cl n_T_ending
  have GTs := ok_showsT (P := l.prog) (w := w) (base := base) WTs.F T kT.cl n_T_ending DTO GTO DRD GRD
  have GSs := ok_showsS (P := l.prog) (w := w) (base := base) (C := CS) WSs.F DSE GSE
  have GFE := ok_firstE (P := l.prog) (w := w) (base := base) DFE T DSE GSE
  have GTA := ok_told (P := l.prog) (w := w) (base := base) DTA T C_MOST_LONG D15 G15 DCW GCW DCL GCL DSE GSE DFE GFE kT MIT GTi bTi kS MIS
  have G26 := ok_cell (P := l.prog) (w := w) (base := base) D26 T
  have G28 := ok_value (P := l.prog) (w := w) (base := base) D28 D27
  have GSA := ok_says (P := l.prog) (w := w) (base := base) DSA T
  have G31 := ok_machine (P := l.prog) (w := w) (base := base) D31 T D26 G26 D28 G28
  have G32 := ok_letters (P := l.prog) (w := w) (base := base) D32 D26 G26 D28 G28
  have G33 := ok_copy (P := l.prog) (w := w) (base := base) D33 T
  have G34 := ok_lhas (P := l.prog) (w := w) (base := base) D34 T
  have G35 := ok_textsX (P := l.prog) (w := w) (base := base) D35 T
  have G37 := ok_drawn (P := l.prog) (w := w) (base := base) D37 T D26 G26 D28 G28
  have GEN := ok_lends (P := l.prog) (w := w) (base := base) DEN T D35 G35 D34 G34
  have GDU := ok_dueT (P := l.prog) (w := w) (base := base) DDU T kT kS n_T_ending kit_T_S kit_S_S DEN GEN D34 G34
  have GRI := ok_rightT (P := l.prog) (w := w) (base := base) DRI T kT kS kAn kAl kAp kF kE kit_T_An kit_T_T kit_T_S kit_T_Al kit_T_Ap kit_T_F kit_T_E kit_S_An kit_S_T kit_S_S kit_S_Al kit_S_Ap kit_S_F kit_S_E n_T_ending WTs.M GTs bTs WSs.M GSs bSs D33 G33 DEN GEN DTA GTA DDU GDU DSA GSA
  have GLR := ok_longT (P := l.prog) (w := w) (base := base) DLR T kT kS kit_T_T kit_S_T DTA GTA DDU GDU D34 G34
  exact ok_law D39 T Tmin kT kS kit_T_T kit_S_S n_T_ending WTs.M GTs bTs WSs.M GSs bSs DTA GTA D31 G31 D32 G32 D28 G28 D26 G26 D37 G37 DRI GRI DLR GLR
theorem walk {l : PySem.W.OpenLaw} {q : Program} {loose : List Str} {XP : (Str → Option Value) → Heap → Prop} {YP : World → Heap → Prop} {d : DefRec} {K : Params → PySem.W.Frag} (hn : l.most = some 63) (hdf : d.params.defaults = [])
    (hY : ∀ (w : World) (h : Heap), YP w h → (K w.params).In h)
    (F : ∀ (w : World) (mg : Str → Option Value) (fa : Addr) (h : Heap), (K w.params).In h → h.Ns mainGlobals mg → mg d.name = some (.ref fa) →
      ∃ fd : FuncData, (∀ (s : Shared) (u : Value), BindsTo s fd ⟨[u], []⟩ [("_law_script", u)]) ∧ ∀ base : Heap, (K w.params).In base → base.Ns mainGlobals mg → FnOk l.prog w (K w.params) mg base CX0 10 fa fd ["_law_script"] (spLaw (K w.params))) :
    PySem.W.WalkO q loose XP YP l.row.toRowW d [] (fun f vs => PySem.call f vs) :=
  L2.walk_of (n := 63) (k := 10) (x := "_law_script") (CX := fun _ => CX0) (sp := fun w => spLaw (K w.params)) hn (by decide) hdf ⟨rfl, by decide, by decide⟩ hY F (fun _ _ a ns hl _ hS => ⟨a, ns, rfl, hS, hl, fun _ => rfl⟩) fun _ _ _ _ _ z => z
end Be

open PySem PySem.W PyProof.Rows
set_option maxRecDepth 100000 in
set_option maxHeartbeats 0 in
theorem PySem.Challenge.cw_bothends_k11_whole_told_apart_holds : PySem.Challenge.rw_bothends_k11_whole_told_apart.Holds := by
  w_on; o_law; k_head; (case hw => w_witness2)
  k_fill
  refine Be.walk (l := PySem.Challenge.rw_bothends_k11_whole_told_apart) rfl rfl (fun w h Y => PySem.W.kIn_of Y) ?F
  case F =>
    intro w mg fa h KX G hmg
    refine' Be.all_mk KX G hmg (Be.Wr.mk' ?a7 ?l7 ?c7 ?k7) (Be.Wr.mk' ?a8 ?l8 ?c8 ?k8) (Be.Wr.mk' ?a9 ?l9 ?c9 ?k9) (Be.Wr.mk' ?aIS ?lIS ?cIS ?kIS) (Be.Wr.mk' ?a10 ?l10 ?c10 ?k10) (Be.Wr.mk' ?a11 ?l11 ?c11 ?k11) (Be.Wr.mk' ?a12 ?l12 ?c12 ?k12) (Be.Wr.mk' ?a13 ?l13 ?c13 ?k13) (Be.Wr.mk' ?a14 ?l14 ?c14 ?k14) (Be.Wr.mk' ?aTO ?lTO ?cTO ?kTO) (Be.Wr.mk' ?a15 ?l15 ?c15 ?k15) (Be.Wr.mk' ?a16 ?l16 ?c16 ?k16) (Be.Wr.mk' ?aCW ?lCW ?cCW ?kCW) (Be.Wr.mk' ?aCL ?lCL ?cCL ?kCL) (Be.Wr.mk' ?a21 ?l21 ?c21 ?k21) (Be.Wr.mk' ?a22 ?l22 ?c22 ?k22) (Be.Wr.mk' ?aRD ?lRD ?cRD ?kRD) (Be.Wr.mk' ?aSP ?lSP ?cSP ?kSP) (Be.Wr.mk' ?aCH ?lCH ?cCH ?kCH) (Be.Wr.mk' ?aMV ?lMV ?cMV ?kMV) (Be.Wr.mk' ?aPB ?lPB ?cPB ?kPB) (Be.Wr.mk' ?aSE ?lSE ?cSE ?kSE) (Be.Wr.mk' ?aFE ?lFE ?cFE ?kFE) (Be.Wr.mk' ?aTA ?lTA ?cTA ?kTA) (Be.Wr.mk' ?a26 ?l26 ?c26 ?k26) (Be.Wr.mk' ?a27 ?l27 ?c27 ?k27) (Be.Wr.mk' ?a28 ?l28 ?c28 ?k28) (Be.Wr.mk' ?aSA ?lSA ?cSA ?kSA) (Be.Wr.mk' ?a31 ?l31 ?c31 ?k31) (Be.Wr.mk' ?a32 ?l32 ?c32 ?k32) (Be.Wr.mk' ?a33 ?l33 ?c33 ?k33) (Be.Wr.mk' ?a34 ?l34 ?c34 ?k34) (Be.Wr.mk' ?a35 ?l35 ?c35 ?k35) (Be.Wr.mk' ?a37 ?l37 ?c37 ?k37) (Be.Wr.mk' ?aEN ?lEN ?cEN ?kEN) (Be.Wr.mk' ?aDU ?lDU ?cDU ?kDU) (Be.Wr.mk' ?aRI ?lRI ?cRI ?kRI) (Be.Wr.mk' ?aLR ?lLR ?cLR ?kLR) (Be.Wr.mk' ?a39 ?l39 ?c39 ?k39) ⟨?a_An, ?pg_An, ?hd_An, ?po_An, ?sa_An, ?cA_An, ?cN_An, ?cT_An, ?cM_An, ?mk__An, ?kc_An⟩   ⟨?a_Al, ?pg_Al, ?hd_Al, ?po_Al, ?sa_Al, ?cA_Al, ?cN_Al, ?cT_Al, ?cM_Al, ?mk__Al, ?kc_Al⟩   ⟨?a_Ap, ?pg_Ap, ?hd_Ap, ?po_Ap, ?sa_Ap, ?cA_Ap, ?cN_Ap, ?cT_Ap, ?cM_Ap, ?mk__Ap, ?kc_Ap⟩   ⟨?a_F, ?pg_F, ?hd_F, ?po_F, ?sa_F, ?cA_F, ?cN_F, ?cT_F, ?cM_F, ?mk__F, ?kc_F⟩   ⟨?a_E, ?pg_E, ?hd_E, ?po_E, ?sa_E, ?cA_E, ?cN_E, ?cT_E, ?cM_E, ?mk__E, ?kc_E⟩   ⟨?a_T, ?pg_T, ?hd_T, ?po_T, ?sa_T, ?cA_T, ?cN_T, ?cT_T, ?cM_T, ?mk__T, ?kc_T⟩ (Be.WrM.mk' ?a_Ti ?i_Ti ?l_Ti ?c_Ti ?k_Ti) (Be.WrM.mk' ?a_Ts ?i_Ts ?l_Ts ?c_Ts ?k_Ts) ?n_T_ending ⟨?a_S, ?pg_S, ?hd_S, ?po_S, ?sa_S, ?cA_S, ?cN_S, ?cT_S, ?cM_S, ?mk__S, ?kc_S⟩ (Be.WrM.mk' ?a_Ss ?i_Ss ?l_Ss ?c_Ss ?k_Ss)  ?i0_S ?kit_T_An ?kit_T_T ?kit_T_S ?kit_T_Al ?kit_T_Ap ?kit_T_F ?kit_T_E ?kit_S_An ?kit_S_T ?kit_S_S ?kit_S_Al ?kit_S_Ap ?kit_S_F ?kit_S_E ?q_ml ?q_ms ?q_MOST_LONG ?z_isinstance ?z_int ?z_bool ?z_str ?z_list ?z_tuple ?z_len ?z_all ?z_zip ?z_range ?z_max ?z_enumerate ?z_any ?z_min ?z_sorted   ?hb
    (case a7 => k_is); (case l7 => k_is); (case c7 => k_is); (case k7 => k_is)
    (case a8 => k_is); (case l8 => k_is); (case c8 => k_is); (case k8 => k_is)
    (case a9 => k_is); (case l9 => k_is); (case c9 => k_is); (case k9 => k_is)
    (case aIS => k_is); (case lIS => k_is); (case cIS => k_is); (case kIS => k_is)
    (case a10 => k_is); (case l10 => k_is); (case c10 => k_is); (case k10 => k_is)
    (case a11 => k_is); (case l11 => k_is); (case c11 => k_is); (case k11 => k_is)
    (case a12 => k_is); (case l12 => k_is); (case c12 => k_is); (case k12 => k_is)
    (case a13 => k_is); (case l13 => k_is); (case c13 => k_is); (case k13 => k_is)
    (case a14 => k_is); (case l14 => k_is); (case c14 => k_is); (case k14 => k_is)
    (case aTO => k_is); (case lTO => k_is); (case cTO => k_is); (case kTO => k_is)
    (case a15 => k_is); (case l15 => k_is); (case c15 => k_is); (case k15 => k_is)
    (case a16 => k_is); (case l16 => k_is); (case c16 => k_is); (case k16 => k_is)
    (case aCW => k_is); (case lCW => k_is); (case cCW => k_is); (case kCW => k_is)
    (case aCL => k_is); (case lCL => k_is); (case cCL => k_is); (case kCL => k_is)
    (case a21 => k_is); (case l21 => k_is); (case c21 => k_is); (case k21 => k_is)
    (case a22 => k_is); (case l22 => k_is); (case c22 => k_is); (case k22 => k_is)
    (case aRD => k_is); (case lRD => k_is); (case cRD => k_is); (case kRD => k_is)
    (case aSP => k_is); (case lSP => k_is); (case cSP => k_is); (case kSP => k_is)
    (case aCH => k_is); (case lCH => k_is); (case cCH => k_is); (case kCH => k_is)
    (case aMV => k_is); (case lMV => k_is); (case cMV => k_is); (case kMV => k_is)
    (case aPB => k_is); (case lPB => k_is); (case cPB => k_is); (case kPB => k_is)
    (case aSE => k_is); (case lSE => k_is); (case cSE => k_is); (case kSE => k_is)
    (case aFE => k_is); (case lFE => k_is); (case cFE => k_is); (case kFE => k_is)
    (case aTA => k_is); (case lTA => k_is); (case cTA => k_is); (case kTA => k_is)
    (case a26 => k_is); (case l26 => k_is); (case c26 => k_is); (case k26 => k_is)
    (case a27 => k_is); (case l27 => k_is); (case c27 => k_is); (case k27 => k_is)
    (case a28 => k_is); (case l28 => k_is); (case c28 => k_is); (case k28 => k_is)
    (case aSA => k_is); (case lSA => k_is); (case cSA => k_is); (case kSA => k_is)
    (case a31 => k_is); (case l31 => k_is); (case c31 => k_is); (case k31 => k_is)
    (case a32 => k_is); (case l32 => k_is); (case c32 => k_is); (case k32 => k_is)
    (case a33 => k_is); (case l33 => k_is); (case c33 => k_is); (case k33 => k_is)
    (case a34 => k_is); (case l34 => k_is); (case c34 => k_is); (case k34 => k_is)
    (case a35 => k_is); (case l35 => k_is); (case c35 => k_is); (case k35 => k_is)
    (case a37 => k_is); (case l37 => k_is); (case c37 => k_is); (case k37 => k_is)
    (case aEN => k_is); (case lEN => k_is); (case cEN => k_is); (case kEN => k_is)
    (case aDU => k_is); (case lDU => k_is); (case cDU => k_is); (case kDU => k_is)
    (case aRI => k_is); (case lRI => k_is); (case cRI => k_is); (case kRI => k_is)
    (case aLR => k_is); (case lLR => k_is); (case cLR => k_is); (case kLR => k_is)
    (case a39 => k_is); (case l39 => k_is); (case c39 => k_is); (case k39 => k_is)
    (case a_An => first | k_is | kernel_rfl); (case pg_An => first | k_is | kernel_rfl); (case hd_An => first | k_is | kernel_rfl); (case po_An => first | k_is | kernel_rfl); (case sa_An => first | k_is | kernel_rfl); (case cA_An => first | k_is | kernel_rfl); (case cN_An => first | k_is | kernel_rfl); (case cT_An => first | k_is | kernel_rfl); (case cM_An => first | k_is | kernel_rfl); (case mk__An => first | k_is | kernel_rfl); (case kc_An => first | k_is | kernel_rfl)
    (case a_Al => first | k_is | kernel_rfl); (case pg_Al => first | k_is | kernel_rfl); (case hd_Al => first | k_is | kernel_rfl); (case po_Al => first | k_is | kernel_rfl); (case sa_Al => first | k_is | kernel_rfl); (case cA_Al => first | k_is | kernel_rfl); (case cN_Al => first | k_is | kernel_rfl); (case cT_Al => first | k_is | kernel_rfl); (case cM_Al => first | k_is | kernel_rfl); (case mk__Al => first | k_is | kernel_rfl); (case kc_Al => first | k_is | kernel_rfl)
    (case a_Ap => first | k_is | kernel_rfl); (case pg_Ap => first | k_is | kernel_rfl); (case hd_Ap => first | k_is | kernel_rfl); (case po_Ap => first | k_is | kernel_rfl); (case sa_Ap => first | k_is | kernel_rfl); (case cA_Ap => first | k_is | kernel_rfl); (case cN_Ap => first | k_is | kernel_rfl); (case cT_Ap => first | k_is | kernel_rfl); (case cM_Ap => first | k_is | kernel_rfl); (case mk__Ap => first | k_is | kernel_rfl); (case kc_Ap => first | k_is | kernel_rfl)
    (case a_F => first | k_is | kernel_rfl); (case pg_F => first | k_is | kernel_rfl); (case hd_F => first | k_is | kernel_rfl); (case po_F => first | k_is | kernel_rfl); (case sa_F => first | k_is | kernel_rfl); (case cA_F => first | k_is | kernel_rfl); (case cN_F => first | k_is | kernel_rfl); (case cT_F => first | k_is | kernel_rfl); (case cM_F => first | k_is | kernel_rfl); (case mk__F => first | k_is | kernel_rfl); (case kc_F => first | k_is | kernel_rfl)
    (case a_E => first | k_is | kernel_rfl); (case pg_E => first | k_is | kernel_rfl); (case hd_E => first | k_is | kernel_rfl); (case po_E => first | k_is | kernel_rfl); (case sa_E => first | k_is | kernel_rfl); (case cA_E => first | k_is | kernel_rfl); (case cN_E => first | k_is | kernel_rfl); (case cT_E => first | k_is | kernel_rfl); (case cM_E => first | k_is | kernel_rfl); (case mk__E => first | k_is | kernel_rfl); (case kc_E => first | k_is | kernel_rfl)
    (case a_T => first | k_is | kernel_rfl); (case pg_T => first | k_is | kernel_rfl); (case hd_T => first | k_is | kernel_rfl); (case po_T => first | k_is | kernel_rfl); (case sa_T => first | k_is | kernel_rfl); (case cA_T => first | k_is | kernel_rfl); (case cN_T => first | k_is | kernel_rfl); (case cT_T => first | k_is | kernel_rfl); (case cM_T => first | k_is | kernel_rfl); (case mk__T => first | k_is | kernel_rfl); (case kc_T => first | k_is | kernel_rfl)
    (case a_Ti => k_is); (case i_Ti => k_is); (case l_Ti => k_is); (case c_Ti => k_is); (case k_Ti => k_is)
    (case a_Ts => k_is); (case i_Ts => k_is); (case l_Ts => k_is); (case c_Ts => k_is); (case k_Ts => k_is)
    (case n_T_ending => k_is)
    (case a_S => first | k_is | kernel_rfl); (case pg_S => first | k_is | kernel_rfl); (case hd_S => first | k_is | kernel_rfl); (case po_S => first | k_is | kernel_rfl); (case sa_S => first | k_is | kernel_rfl); (case cA_S => first | k_is | kernel_rfl); (case cN_S => first | k_is | kernel_rfl); (case cT_S => first | k_is | kernel_rfl); (case cM_S => first | k_is | kernel_rfl); (case mk__S => first | k_is | kernel_rfl); (case kc_S => first | k_is | kernel_rfl)
    (case a_Ss => k_is); (case i_Ss => k_is); (case l_Ss => k_is); (case c_Ss => k_is); (case k_Ss => k_is)
    (case i0_S => first | k_is | kernel_rfl)
    (case kit_T_An => first | kit_is | kernel_rfl); (case kit_T_T => first | kit_is | kernel_rfl); (case kit_T_S => first | kit_is | kernel_rfl); (case kit_T_Al => first | kit_is | kernel_rfl); (case kit_T_Ap => first | kit_is | kernel_rfl); (case kit_T_F => first | kit_is | kernel_rfl); (case kit_T_E => first | kit_is | kernel_rfl); (case kit_S_An => first | kit_is | kernel_rfl); (case kit_S_T => first | kit_is | kernel_rfl); (case kit_S_S => first | kit_is | kernel_rfl); (case kit_S_Al => first | kit_is | kernel_rfl); (case kit_S_Ap => first | kit_is | kernel_rfl); (case kit_S_F => first | kit_is | kernel_rfl); (case kit_S_E => first | kit_is | kernel_rfl)
    (case q_ml => k_is); (case q_ms => k_is); (case q_MOST_LONG => k_is)
    (case z_isinstance => k_is); (case z_int => k_is); (case z_bool => k_is); (case z_str => k_is); (case z_list => k_is); (case z_tuple => k_is); (case z_len => k_is); (case z_all => k_is); (case z_zip => k_is); (case z_range => k_is); (case z_max => k_is); (case z_enumerate => k_is); (case z_any => k_is); (case z_min => k_is); (case z_sorted => k_is)
    case hb => exact fun s v => .of_eq rfl
