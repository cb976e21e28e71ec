import PyProof.Rows.All
import Wide.All
import OpenK.AllK
import Wide.FinOn
import Lean
import PyProof.EqAt
import PyProof.EqKinds
import PyProof.TupleCall
import PyProof.NeKinds
import PyProof.FactsAll.tuple
import PySem.Challenge.RW_lotwander_k09_whole_like
set_option Elab.async false
set_option linter.all false
set_option maxRecDepth 100000
set_option maxHeartbeats 4000000
/-! THE HAND LAYER, for ints, bools, texts, own classes, LISTS and tuples (index, slices, in, append, pop ..), calls, loops. Paste it whole ahead of your own text; what your proof does not reach may be deleted. -/
namespace L2
open PySem PySem.Spec PyProof.Rows

/-- a key: an int or a str -/
abbrev Key := Sum Int Str
def keyIs : Key → Value → Bool
  | .inl k, v => Value.isInt k v
  | .inr x, v => Value.isStrOf x v
def keyH (w : World) : Key → Int
  | .inl k => hashInt k
  | .inr x => hashStr w x
theorem keyIs_shape : ∀ {k : Key} {v : Value}, keyIs k v = true → (∃ i t, k = Sum.inl i ∧ v = Value.int i t) ∨ (∃ x t, k = Sum.inr x ∧ v = Value.str x t)
  | .inl i, v, h => by
    obtain ⟨t, e⟩ := Value.isInt_shape (k := i) (v := v) h
    exact .inl ⟨i, t, rfl, e⟩
  | .inr x, v, h => by
    obtain ⟨t, e⟩ := Value.isStrOf_shape (x := x) (v := v) h
    exact .inr ⟨x, t, rfl, e⟩
theorem keyIs_int (i : Int) (t : Tok) : keyIs (.inl i) (.int i t) = true := by simp [keyIs, Value.isInt]
theorem keyIs_str (x : Str) (t : Tok) : keyIs (.inr x) (.str x t) = true := by simp [keyIs, Value.isStrOf]
theorem key_ll (a b : Int) : decide ((Sum.inl a : Key) = Sum.inl b) = (a == b) := by
  by_cases e : a = b
  · subst e; simp
  · have h : ¬ (Sum.inl a : Key) = Sum.inl b := fun q => e (Sum.inl.inj q)
    rw [decide_eq_false h]
    exact (beq_eq_false_iff_ne.mpr e).symm
theorem key_rr (a b : Str) : decide ((Sum.inr a : Key) = Sum.inr b) = decide (a = b) := by
  by_cases e : a = b
  · subst e; simp
  · have h : ¬ (Sum.inr a : Key) = Sum.inr b := fun q => e (Sum.inr.inj q)
    rw [decide_eq_false h, decide_eq_false e]
theorem key_lr (a : Int) (b : Str) : decide ((Sum.inl a : Key) = Sum.inr b) = false := decide_eq_false (fun q => nomatch q)
theorem key_rl (a : Str) (b : Int) : decide ((Sum.inr a : Key) = Sum.inl b) = false := decide_eq_false (fun q => nomatch q)

def mixKind (prog : Program) (w : World) : PySem.KeyKind prog w Key where
  is := keyIs
  hash := keyH w
  inj := fun v a b ha hb => by
    rcases keyIs_shape ha with ⟨i, t, rfl, rfl⟩ | ⟨x, t, rfl, rfl⟩
    · rcases keyIs_shape hb with ⟨j, u, rfl, e⟩ | ⟨y, u, rfl, e⟩
      · injection e with e1 _; rw [e1]
      · exact nomatch e
    · rcases keyIs_shape hb with ⟨j, u, rfl, e⟩ | ⟨y, u, rfl, e⟩
      · exact nomatch e
      · injection e with e1 _; rw [e1]
  byValue := fun k v h => by
    rcases keyIs_shape h with ⟨i, t, rfl, rfl⟩ | ⟨x, t, rfl, rfl⟩ <;> rfl
  pyHash := fun hv h => by
    rcases keyIs_shape hv with ⟨i, t, rfl, rfl⟩ | ⟨x, t, rfl, rfl⟩
    · exact wpAny_pyHash_int h
    · exact wpAny_pyHash_str h
  eqBool := fun hu hv h => by
    rcases keyIs_shape hu with ⟨i, t, rfl, rfl⟩ | ⟨x, t, rfl, rfl⟩
    · rcases keyIs_shape hv with ⟨j, u, rfl, rfl⟩ | ⟨y, u, rfl, rfl⟩
      · rw [key_ll] at h; exact wpAny_eqBool_int h
      · rw [key_lr] at h; exact SeqAt.EqAt.int_str i t y u _ _ _ _ h
    · rcases keyIs_shape hv with ⟨j, u, rfl, rfl⟩ | ⟨y, u, rfl, rfl⟩
      · rw [key_rl] at h; exact SeqAt.EqAt.str_int x t j u _ _ _ _ h
      · rw [key_rr] at h; exact wpAny_eqBool_str h
  «strs» := fun k x t v h => by
    rcases keyIs_shape h with ⟨i, u, rfl, e⟩ | ⟨y, u, rfl, e⟩
    · exact nomatch e
    · injection e with e1 _
      subst e1
      cases v <;> rfl

theorem mixKind_int (prog : Program) (w : World) (i : Int) (t : Tok) : (mixKind prog w).is (.inl i) (.int i t) = true := keyIs_int i t
theorem mixKind_str (prog : Program) (w : World) (x : Str) (t : Tok) : (mixKind prog w).is (.inr x) (.str x t) = true := keyIs_str x t
end L2

namespace L2
open PySem PySem.Spec PyProof.Rows

/-- a value, without the heap -/
inductive V where
  | non | bl (b : Bool) | int (i : Int) | str (x : Str) | byt (b : Array UInt8) | flt (b : UInt64) | ref (a : Addr) | ty (n : String)
  deriving DecidableEq

def RelV : V → Value → Prop
  | .non, u => u = Value.none
  | .bl b, u => u = Value.bool b
  | .int i, u => ∃ t, u = Value.int i t
  | .str x, u => ∃ t, u = Value.str x t
  | .byt b, u => ∃ t, u = Value.bytes b t
  | .flt b, u => ∃ t, u = Value.float b t
  | .ref a, u => u = Value.ref a
  | .ty n, u => u = Value.type n

abbrev Vals : List V → List Value → Prop := Paired RelV
theorem Vals.length {xs : List V} {us : List Value} (r : Vals xs us) : xs.length = us.length := Paired.length r
theorem Vals.get : ∀ {xs : List V} {us : List Value} {i : Nat} {x : V}, Vals xs us → xs[i]? = some x → ∃ u, us[i]? = some u ∧ RelV x u
  | _, _, _, _, .nil, e => by simp at e
  | _, _, 0, _, .cons r _, e => by simp at e; subst e; exact ⟨_, rfl, r⟩
  | _, _, i + 1, x, .cons _ t, e => by
    obtain ⟨u, h1, h2⟩ := Vals.get (i := i) (x := x) t (by simpa using e)
    exact ⟨u, by simpa using h1, h2⟩
theorem Vals.append : ∀ {xs ys : List V} {us ws : List Value}, Vals xs us → Vals ys ws → Vals (xs ++ ys) (us ++ ws)
  | _, _, _, _, .nil, s => s
  | _, _, _, _, .cons r t, s => .cons r (Vals.append t s)

def RelO : Option V → Option Value → Prop
  | some v, some u => RelV v u
  | none, none => True
  | _, _ => False
def KV {κ : Type} : List (κ × V) → List (κ × Value) → Prop := Paired fun (p : κ × V) (q : κ × Value) => p.1 = q.1 ∧ RelV p.2 q.2

/-- a key of a dict (00_mix): an int or a text -/
def kV : Key → V
  | .inl i => .int i
  | .inr x => .str x

/-- what stands at a tracked address -/
inductive HO where
  /-- a list -/
  | lst (xs : List V)
  /-- a tuple (never changes) -/
  | tup (xs : List V)
  /-- a dict whose keys are ints and texts; one whose keys are tuples of ints and texts (the empty one is both) -/
  | dK (kvs : List (Key × V)) | dT (kvs : List (List Key × V))
  /-- a set of ints: its members, its size -/
  | set (S : Int → Bool) (n : Nat)
  /-- an instance of the class at C, its dict at dx, its attributes -/
  | ins (C dx : Addr) (fs : List (Str × V))
  /-- the dict of the instance at x -/
  | own (x : Addr)
  /-- the dict of an exception -/
  | xd (fs : List (Str × V))
  /-- a bound method, f of x -/
  | met (f x : Addr)
  /-- a range object lo, lo + 1, .. below hi -/
  | rng (lo hi : Int)
  /-- a thing that is known to the object (the script; a dict while a loop walks it): read, never written while it is so -/
  | frz (o : Obj) (u : HO)
  /-- a code object's table -/
  | tbl (ps : Array Value)
  /-- any other thing, by what is true of its one object (a def of one's own: SetO a S n := HO.ext fun h => ..) -/
  | ext (φ : Heap → Prop)

abbrev Hp := Addr → Option HO
def upd (H : Hp) (a : Addr) (o : HO) : Hp := fun b => if b = a then some o else H b
theorem upd_same {H : Hp} {a : Addr} {o : HO} : upd H a o a = some o := by unfold upd; rw [if_pos rfl]
theorem upd_ne {H : Hp} {a b : Addr} {o : HO} (h : b ≠ a) : upd H a o b = H b := by unfold upd; rw [if_neg h]
/-- two objects of different content stand apart -/
theorem ne_of {H : Hp} {a b : Addr} {o u : HO} (h : H a = some o) (h' : H b = some u) (d : o ≠ u) : a ≠ b := by
  intro e; subst e; rw [h] at h'; exact d (Option.some.inj h')
theorem ne_of_none {H : Hp} {a b : Addr} {o : HO} (h : H a = some o) (h' : H b = none) : a ≠ b := by
  intro e; subst e; rw [h] at h'; cases h'

section
variable (P : Program) (w : World)
def ObjOk (H : Hp) (h : Heap) (a : Addr) : HO → Prop
  | .lst xs => xs.length ≤ sizeLine ∧ ∃ (its : List Value) (n : Nat), Vals xs its ∧ h.get? a = some { cls := .type "list", data := .seq its.toArray n }
  | .tup xs => xs.length ≤ sizeLine ∧ ∃ its : List Value, Vals xs its ∧ IsTup h a its.toArray
  | .dK kvs => kvs.length ≤ sizeLine ∧ (a == sysModules) = false ∧ ∃ vs, KV kvs vs ∧ h.DictOf (mixKind P w) a vs
  | .dT kvs => kvs.length ≤ sizeLine ∧ (a == sysModules) = false ∧ ∃ xs : List (List Key × Addr × Value),
      Paired (fun (p : List Key × V) (q : List Key × Addr × Value) => p.1 = q.1 ∧ H q.2.1 = some (.tup (p.1.map kV)) ∧ RelV p.2 q.2.2) kvs xs ∧
      ∃ o es ep, h.get? a = some o ∧ o.ExactDict ∧ o.data = .dict es ep ∧ es.toList = xs.map (entryOfKey (tupleKind (mixKind P w))) ∧ (xs.map (·.1)).Nodup
  | .set S n => h.SetOf (intKind P w) a S n
  | .ins C dx fs => H dx = some (.own a) ∧ fs.length ≤ 1000 ∧ dx ≠ a ∧ h.get? a = some (PySem.W.instObj C dx) ∧
      ∃ mA, h.Ns1 dx mA ∧ (∀ f, RelO (fs.lookup f) (mA f)) ∧ PySem.Within mA (fs.map (·.1))
  | .own _ => ∃ o, h.get? a = some o
  | .xd fs => ∃ mA, h.Ns1 a mA ∧ ∀ f, RelO (fs.lookup f) (mA f)
  | .rng lo hi => ∃ t u v, h.get? a = some { cls := .type "range", data := .fields #[.int lo t, .int hi u, .int 1 v] }
  | .frz o u => h.get? a = some o ∧ ObjOk H h a u
  | .tbl ps => h.get? a = some { cls := .none, data := .fields ps }
  | .met f x => h.get? a = some (PySem.W.methodObj (.ref f) (.ref x))
  | .ext φ => φ h ∧ (∃ o, h.get? a = some o) ∧ ∀ h1 h2 : Heap, φ h1 → (∀ o, h1.get? a = some o → h2.get? a = some o) → φ h2
/-- the abstract heap is held -/
def HOk (H : Hp) (h : Heap) : Prop := ∀ a o, H a = some o → ObjOk P w H h a o
end

section
variable {P : Program} {w : World} {H H' : Hp} {h h' : Heap} {a : Addr} {o : HO}
theorem ObjOk.lt (x : ObjOk P w H h a o) : a < h.objs.size := by
  cases o with
  | lst xs => obtain ⟨_, _, _, _, e⟩ := x; exact Heap.lt_size e
  | tup xs => obtain ⟨_, _, _, p⟩ := x; exact p.lt
  | dK kvs => obtain ⟨_, _, _, _, o, _, _, e, _⟩ := x; exact Heap.lt_size e
  | dT kvs => obtain ⟨_, _, _, _, o, _, _, e, _⟩ := x; exact Heap.lt_size e
  | set S n => obtain ⟨o, _, _, _, e, _⟩ := x; exact Heap.lt_size e
  | ins C dx fs => obtain ⟨_, _, _, e, _⟩ := x; exact Heap.lt_size e
  | own y => obtain ⟨_, e⟩ := x; exact Heap.lt_size e
  | xd fs => obtain ⟨_, ⟨_, _, _, e, _⟩, _⟩ := x; exact Heap.lt_size e
  | rng lo hi => obtain ⟨_, _, _, e⟩ := x; exact Heap.lt_size e
  | frz ob u => obtain ⟨e, _⟩ := x; exact Heap.lt_size e
  | tbl ps => exact Heap.lt_size (show h.get? a = some _ from x)
  | met f y => exact Heap.lt_size (show h.get? a = some _ from x)
  | ext φ => obtain ⟨_, ⟨_, e⟩, _⟩ := x; exact Heap.lt_size e
theorem Paired.mapP {α β : Type} {F G : α → β → Prop} : ∀ {l₁ : List α} {l₂ : List β}, Paired F l₁ l₂ → (∀ a b, F a b → G a b) → Paired G l₁ l₂
  | _, _, .nil, _ => .nil
  | _, _, .cons r t, f => .cons (f _ _ r) (Paired.mapP t f)
/-- what an object's description leans on: its own object, its own dict, the tuples -/
theorem ObjOk.stay (x : ObjOk P w H h a o) (k : ∀ b u, (b = a ∨ H b = some (.own a)) → h.get? b = some u → h'.get? b = some u)
    (ho : ∀ b, H b = some (.own a) → H' b = some (.own a)) (ht : ∀ b xs, H b = some (.tup xs) → H' b = some (.tup xs)) : ObjOk P w H' h' a o := by
  induction o with
  | lst xs => obtain ⟨z, its, n, r, e⟩ := x; exact ⟨z, its, n, r, k _ _ (.inl rfl) e⟩
  | tup xs => obtain ⟨z, its, r, ob, e, c⟩ := x; exact ⟨z, its, r, ob, k _ _ (.inl rfl) e, c⟩
  | dK kvs => obtain ⟨z, y, vs, r, ob, es, ep, e, c⟩ := x; exact ⟨z, y, vs, r, ob, es, ep, k _ _ (.inl rfl) e, c⟩
  | dT kvs =>
    obtain ⟨z, y, xs, r, ob, es, ep, e, c⟩ := x
    exact ⟨z, y, xs, Paired.mapP r fun p q z => ⟨z.1, ht _ _ z.2.1, z.2.2⟩, ob, es, ep, k _ _ (.inl rfl) e, c⟩
  | set S n => obtain ⟨ob, es, ep, t, e, c⟩ := x; exact ⟨ob, es, ep, t, k _ _ (.inl rfl) e, c⟩
  | ins C dx fs =>
    obtain ⟨d, z, ne, e, mA, ⟨od, es, ep, e2, c⟩, r⟩ := x
    exact ⟨ho _ d, z, ne, k _ _ (.inl rfl) e, mA, ⟨od, es, ep, k _ _ (.inr d) e2, c⟩, r⟩
  | own y => obtain ⟨ob, e⟩ := x; exact ⟨ob, k _ _ (.inl rfl) e⟩
  | xd fs => obtain ⟨mA, ⟨od, es, ep, e, c⟩, r⟩ := x; exact ⟨mA, ⟨od, es, ep, k _ _ (.inl rfl) e, c⟩, r⟩
  | rng lo hi => obtain ⟨t, u, v, e⟩ := x; exact ⟨t, u, v, k _ _ (.inl rfl) e⟩
  | frz ob u ih => obtain ⟨e, q⟩ := x; exact ⟨k _ _ (.inl rfl) e, ih q⟩
  | tbl ps =>
    have e : h.get? a = some { cls := .none, data := .fields ps } := x
    show h'.get? a = some { cls := .none, data := .fields ps }
    exact k a _ (.inl rfl) e
  | met f y =>
    have e : h.get? a = some (PySem.W.methodObj (.ref f) (.ref y)) := x
    show h'.get? a = some (PySem.W.methodObj (.ref f) (.ref y))
    exact k a _ (.inl rfl) e
  | ext φ => obtain ⟨p, ⟨o, e⟩, st⟩ := x; exact ⟨st _ _ p fun o q => k _ _ (.inl rfl) q, ⟨o, k _ _ (.inl rfl) e⟩, st⟩
theorem HOk.lt (x : HOk P w H h) (e : H a = some o) : a < h.objs.size := (x a o e).lt
theorem HOk.fresh (x : HOk P w H h) (e : h.objs.size ≤ a) : H a = none := by
  cases q : H a with
  | none => rfl
  | some u => exact absurd (Nat.lt_of_lt_of_le (x.lt q) e) (Nat.lt_irrefl _)
/-- every object of the heap is kept -/
theorem HOk.kept (x : HOk P w H h) (k : ∀ b u, h.get? b = some u → h'.get? b = some u) : HOk P w H h' := fun a o e =>
  (x a o e).stay (fun b u _ q => k b u q) (fun _ q => q) fun _ _ q => q
/-- a new object is laid and tracked -/
theorem HOk.laid (x : HOk P w H h) (k : ∀ b u, h.get? b = some u → h'.get? b = some u) (hp : h.objs.size ≤ a) (new : ObjOk P w (upd H a o) h' a o) : HOk P w (upd H a o) h' := fun b u e => by
  have hn := x.fresh hp
  by_cases hb : b = a
  · subst hb; rw [upd_same] at e; cases e; exact new
  · rw [upd_ne hb] at e
    exact (x b u e).stay (fun c v _ q => k c v q) (fun c q => by rw [upd_ne (ne_of_none q hn)]; exact q) fun c xs q => by rw [upd_ne (ne_of_none q hn)]; exact q
end

/-- what may be read as u: it is u, or a known u -/
def Rd (H : Hp) (a : Addr) (u : HO) : Prop := H a = some u ∨ ∃ o, H a = some (.frz o u)
theorem Rd.ok {P : Program} {w : World} {H : Hp} {h : Heap} {a : Addr} {u : HO} (r : Rd H a u) (x : HOk P w H h) : ObjOk P w H h a u := by
  rcases r with r | ⟨o, r⟩
  · exact x a u r
  · obtain ⟨_, q⟩ := x a _ r
    exact q
/-- what may be written -/
def Mut : Option HO → Prop
  | some (.lst _) => True
  | some (.dK _) => True
  | some (.dT _) => True
  | some (.set _ _) => True
  | some (.ins _ _ _) => True
  | some (.ext _) => True
  | _ => False
section
variable {P : Program} {w : World} {H : Hp} {h h' : Heap} {x e : Addr} {o' : HO}
/-- the object at e is changed: x itself, or the dict of the instance x -/
theorem HOk.write (ok : HOk P w H h) (mu : Mut (H x)) (he : e = x ∨ H e = some (.own x)) (k : ∀ b u, b ≠ e → h.get? b = some u → h'.get? b = some u) (heo : ∃ u, h'.get? e = some u)
    (new : ObjOk P w (upd H x o') h' x o') : HOk P w (upd H x o') h' := fun b u q => by
  have nown : ∀ c y, H c = some (.own y) → c ≠ x := fun c y r z => by subst z; rw [r] at mu; exact mu
  have ntup : ∀ c xs, H c = some (.tup xs) → c ≠ x := fun c xs r z => by subst z; rw [r] at mu; exact mu
  by_cases hb : b = x
  · subst hb; rw [upd_same] at q; cases q; exact new
  · rw [upd_ne hb] at q
    by_cases hbe : b = e
    · have q' : H b = some (.own x) := by
        rcases he with z | z
        · exact absurd (hbe.trans z) hb
        · rw [hbe]; exact z
      rw [q] at q'; cases q'
      obtain ⟨v, hv⟩ := heo
      exact ⟨v, by rw [hbe]; exact hv⟩
    · refine (ok b u q).stay (fun c v hc r => k c v ?_ r) (fun c r => by rw [upd_ne (nown c b r)]; exact r) fun c xs r => by rw [upd_ne (ntup c xs r)]; exact r
      rcases hc with rfl | hc
      · exact hbe
      · rintro rfl
        rcases he with z | z
        · exact nown c b hc z
        · rw [hc] at z; cases z; exact hb rfl
end

/-! ### kept unless tracked; of the frames at fs (the callers') the slots may change (an exception that passes writes there); of the records at ex (iterators) nothing is said -/
structure Un (fs ex : List Addr) (H H' : Hp) (h h' : Heap) : Prop where
  keep : ∀ b o, h.get? b = some o → H b = none → b ∉ fs → b ∉ ex → h'.get? b = some o
  slot : ∀ b o, h.get? b = some o → H b = none → b ∈ fs → b ∉ ex → ∃ sl, h'.get? b = some { o with slots := sl }
  free : ∀ b o, h.get? b = some o → H b = none → b ∉ ex → H' b = none
  there : ∀ b o, h.get? b = some o → b ∉ ex → ∃ o', h'.get? b = some o'
  tups : ∀ b xs, H b = some (.tup xs) → H' b = some (.tup xs)
  frzs : ∀ b o u, H b = some (.frz o u) → H' b = some (.frz o u)
  tbls : ∀ b ps, H b = some (.tbl ps) → ∃ more, H' b = some (.tbl (ps ++ more))
section
variable {fs fs' ex ex' : List Addr} {H H1 H2 : Hp} {h h1 h2 h' : Heap} {a x e : Addr} {o : HO}
theorem Un.any (u : Un fs ex H H1 h h1) {b : Addr} {ob : Obj} (q : h.get? b = some ob) (n : H b = none) (hx : b ∉ ex) : ∃ sl, h1.get? b = some { ob with slots := sl } := by
  by_cases hb : b ∈ fs
  · exact u.slot b ob q n hb hx
  · exact ⟨ob.slots, u.keep b ob q n hb hx⟩
theorem Un.kept (k : ∀ b u, h.get? b = some u → h'.get? b = some u) : Un fs ex H H h h' :=
  ⟨fun b ob q _ _ _ => k b ob q, fun b ob q _ _ _ => ⟨ob.slots, k b ob q⟩, fun _ _ _ n _ => n, fun b ob q _ => ⟨ob, k b ob q⟩, fun _ _ q => q, fun _ _ _ q => q, fun _ ps q => ⟨#[], by rw [q]; simp⟩⟩
theorem Un.refl : Un fs ex H H h h := Un.kept fun _ _ q => q
theorem Un.laid (k : ∀ b u, h.get? b = some u → h'.get? b = some u) (hp : h.objs.size ≤ a) (hn : H a = none) : Un fs ex H (upd H a o) h h' where
  keep := fun b u q _ _ _ => k b u q
  slot := fun b u q _ _ _ => ⟨u.slots, k b u q⟩
  free := fun b u q n _ => by rw [upd_ne (Nat.ne_of_lt (Nat.lt_of_lt_of_le (Heap.lt_size q) hp))]; exact n
  there := fun b u q _ => ⟨u, k b u q⟩
  tups := fun b xs q => by rw [upd_ne (ne_of_none q hn)]; exact q
  frzs := fun b u xs q => by rw [upd_ne (ne_of_none q hn)]; exact q
  tbls := fun b ps q => ⟨#[], by rw [upd_ne (ne_of_none q hn), q]; simp⟩
theorem Un.write (mu : Mut (H x)) (he : e = x ∨ H e = some (.own x)) (k : ∀ b u, b ≠ e → h.get? b = some u → h'.get? b = some u) (heo : ∃ u, h'.get? e = some u) : Un fs ex H (upd H x o) h h' := by
  have hx : ∀ b, H b = none → b ≠ x := fun b n z => by subst z; rw [n] at mu; exact mu
  have hb : ∀ b, H b = none → b ≠ e := fun b n z => by
    subst z
    rcases he with r | r
    · exact hx b n r
    · rw [n] at r; cases r
  have hm : ∀ b u, H b = some u → ¬ Mut (some u) → b ≠ x := fun b u q nm z => by subst z; rw [q] at mu; exact nm mu
  refine ⟨fun b u q n _ _ => k b u (hb b n) q, fun b u q n _ _ => ⟨u.slots, k b u (hb b n) q⟩, fun b u q n _ => by rw [upd_ne (hx b n)]; exact n, fun b u q _ => ?_,
    fun b xs q => by rw [upd_ne (hm b _ q fun z => z)]; exact q, fun b u xs q => by rw [upd_ne (hm b _ q fun z => z)]; exact q, fun b ps q => ⟨#[], by rw [upd_ne (hm b _ q fun z => z), q]; simp⟩⟩
  by_cases hbe : b = e
  · subst hbe; exact heo
  · exact ⟨u, k b u hbe q⟩
end

/-! ### the heap without what is tracked -/
def trk (h : Heap) (H : Hp) : List Addr := (List.range h.objs.size).filter fun a => (H a).isSome
def hidT (h : Heap) (H : Hp) : Heap := PySem.W.hideAll h (trk h H)
theorem hidT_size (h : Heap) (H : Hp) : (hidT h H).objs.size = h.objs.size := PySem.W.hideAll_size _ _
theorem hidT_get {h : Heap} {H : Hp} {b : Addr} {o : Obj} (e : h.get? b = some o) (n : H b = none) : (hidT h H).get? b = some o :=
  PySem.W.hideAll_get _ e fun hm => by
    have q : (H b).isSome = true := (List.mem_filter.mp hm).2
    rw [n] at q; simp at q
theorem of_hidT {h : Heap} {H : Hp} {b : Addr} {o : Obj} (e : (hidT h H).get? b = some o) : h.get? b = some o ∧ H b = none := by
  have e' : h.get? b = some o := PySem.W.of_hideAll (trk h H) e
  refine ⟨e', ?_⟩
  cases q : H b with
  | none => rfl
  | some x =>
    have hm : b ∈ trk h H := List.mem_filter.mpr ⟨List.mem_range.mpr (Heap.lt_size e'), by simp [q]⟩
    have z : (hidT h H).get? b = none := PySem.W.hideAll_none (trk h H) hm
    rw [z] at e; cases e

/-! ### OpenK's ledger, filled with every new object but one -/
def allNews (g h : Heap) (L : Addr) : List (Addr × Obj) := (List.range h.objs.size).filterMap fun a => if a = L ∨ (g.get? a).isSome = true then none else (h.get? a).map fun o => (a, o)
def rest (g h : Heap) (L d : Addr) : List (Addr × Obj) := (allNews g h L).filter fun p => decide (p.1 ≠ d)
end L2

namespace L2
open PySem PySem.Spec PyProof.Rows

/-- the module's facts, over the base: the heap at the law's entry without what is tracked there -/
structure Mod (K : PySem.W.Frag) (mg : Str → Option Value) (base : Heap) : Prop where
  kin : K.In base
  glob : base.Ns mainGlobals mg
  blt : ∃ mb, base.Ns builtinsNs mb ∧ ∀ x : Str, x ≠ "__name__" → mb x = bootBuiltins x
  nolimit : base.NoLimit

/-- the context: a def's body (or a comprehension's block) running. base: fixed through the whole law; s₀, H₀: the entry; outer: the frames whose slots others may change (a def's callers); stack: all frames that run;
   ex: iterators that were made ahead of the entry and are walked here (a comprehension's); fn: the names whose cells were made at the entry (a def: all; a comprehension's block: its own); calm: not within an except suite; pn: pins that every state bears; xe: what is wanted of an exception that leaves the code -/
structure Cx where
  prog : Program
  w : World
  K : PySem.W.Frag
  mg : Str → Option Value
  base : Heap
  A : Around
  N : List Str
  s₀ : Shared
  H₀ : Hp
  env : Env
  outer : List Env
  stack : List Env
  ex : List Addr
  fn : Str → Bool
  calm : Bool
  pn : List (Addr × Obj)
  xe : Value → Shared → Prop
/-- the callers' frames -/
def frs (l : List Env) : List Addr := l.filterMap (·.frame)
abbrev Cx.fs (X : Cx) : List Addr := frs X.outer

def Vis (sc : Scope) (x : Str) : Prop := sc.names.lookup x = some .local ∨ sc.names.lookup x = some .cell ∨ sc.names.lookup x = some .free
def Loc (sc : Scope) (x : Str) : Prop := sc.names.lookup x = some .local ∨ sc.names.lookup x = some .cell
def Look (env : Env) (h : Heap) (m : Str → Option Value) (x : Str) (u : Value) : Prop :=
  (env.kindOf x = some .local ∧ m x = some u) ∨ ((env.kindOf x = some .cell ∨ env.kindOf x = some .free) ∧ ∃ c, env.cells.lookup x = some c ∧ h.IsCell c (some u))

structure Cx.Ok (X : Cx) : Prop where
  mod : Mod X.K X.mg X.base
  kind : X.env.scope.kind = .function
  glob : X.env.globals = mainGlobals
  blt : X.env.builtins = builtinsNs
  above : X.s₀.heap.objs.size ≤ X.env.locals
  inj : ∀ x y c, X.env.cells.lookup x = some c → X.env.cells.lookup y = some c → x = y
  has : ∀ x, (X.env.kindOf x = some .cell ∨ X.env.kindOf x = some .free) → ∃ c, X.env.cells.lookup x = some c
  cab : ∀ x c, X.fn x = true → X.env.cells.lookup x = some c → X.s₀.heap.objs.size ≤ c
  hd : X.calm = true → X.A.handled = none
  frames : X.A.frames = some X.stack
  stk : X.stack = X.outer ∨ (X.stack = X.env :: X.outer ∧ X.env.frame = some X.env.locals)
  exf : ∀ b ∈ X.ex, b ≠ X.env.locals ∧ ∀ x c, X.env.cells.lookup x = some c → c ≠ b
  bs : ∀ b o, X.base.get? b = some o → X.s₀.heap.get? b = some o ∧ X.H₀ b = none
  bsz : X.base.objs.size ≤ X.s₀.heap.objs.size
  noex : ∀ b o, X.base.get? b = some o → b ∉ X.ex
  exfs : ∀ b ∈ X.ex, b ∉ X.fs
  funs : X.s₀.heap.FunFrames X.base X.outer
  frf : ∀ b ∈ X.fs, X.H₀ b = none

structure Inv (X : Cx) (pins : List (Addr × Obj)) (σ : List (Option V)) (H : Hp) (s : Shared) : Prop where
  ok : X.Ok
  os : s.os = X.s₀.os
  bare : AllBare s.gens
  base : Un X.fs X.ex X.H₀ H X.s₀.heap s.heap
  loc : ∃ m, s.heap.Ns X.env.locals m ∧ ∀ (i : Nat) (x : Str) (v : V), X.N[i]? = some x → σ[i]? = some (some v) → Vis X.env.scope x → ∃ u, RelV v u ∧ Look X.env s.heap m x u
  cell : ∀ x c, X.env.cells.lookup x = some c → ∃ v, s.heap.IsCell c v
  free : H X.env.locals = none
  freeC : ∀ x c, X.env.cells.lookup x = some c → H c = none
  pin : ∀ p ∈ X.pn ++ pins, s.heap.get? p.1 = some p.2 ∧ H p.1 = none ∧ p.1 ≠ X.env.locals ∧ p.1 ∉ X.fs ∧ ∀ v, p.2.data ≠ .cell v
  hok : HOk X.prog X.w H s.heap
  len : σ.length = X.N.length

section
variable {X : Cx} {pins : List (Addr × Obj)} {σ : List (Option V)} {H H' : Hp} {s : Shared} {h' : Heap}

theorem Cx.Ok.nofr (ok : X.Ok) {b : Addr} {o : Obj} (e : X.base.get? b = some o) : b ∉ X.fs := fun hb => by
  have := (ok.funs.mem hb).1
  rw [e] at this; cases this
theorem Inv.bs (I : Inv X pins σ H s) : ∀ b o, X.base.get? b = some o → s.heap.get? b = some o ∧ H b = none := fun b o e =>
  ⟨I.base.keep b o (I.ok.bs b o e).1 (I.ok.bs b o e).2 (I.ok.nofr e) (I.ok.noex b o e), I.base.free b o (I.ok.bs b o e).1 (I.ok.bs b o e).2 (I.ok.noex b o e)⟩
theorem Inv.bk (I : Inv X pins σ H s) : ∀ b o, X.base.get? b = some o → s.heap.get? b = some o := fun b o e => (I.bs b o e).1
theorem Inv.mod (I : Inv X pins σ H s) : Mod X.K X.mg X.base := I.ok.mod
theorem Inv.kIn (I : Inv X pins σ H s) : X.K.In s.heap := I.ok.mod.kin.keeps I.bk
theorem Inv.lt (I : Inv X pins σ H s) : X.env.locals < s.heap.objs.size := let ⟨_, hn, _⟩ := I.loc; hn.lt
theorem Inv.sz (I : Inv X pins σ H s) : X.s₀.heap.objs.size ≤ s.heap.objs.size := Nat.le_trans I.ok.above (Nat.le_of_lt I.lt)
theorem Inv.nofs (I : Inv X pins σ H s) {a : Addr} (h : s.heap.objs.size ≤ a) : a ∉ X.fs := fun hb => by
  obtain ⟨_, o, ho, _⟩ := I.ok.funs.mem hb
  exact absurd (Nat.lt_of_lt_of_le (Heap.lt_size ho) (Nat.le_trans I.sz h)) (Nat.lt_irrefl _)
theorem Inv.cne (I : Inv X pins σ H s) : ∀ x c, X.env.cells.lookup x = some c → c ≠ X.env.locals := fun x c e z => by
  obtain ⟨v, o, ho, hd⟩ := I.cell x c e
  obtain ⟨m, ⟨o', es, ep, ho', hd', _⟩, _⟩ := I.loc
  rw [z, ho'] at ho; cases ho; rw [hd'] at hd; cases hd
theorem Inv.funs (I : Inv X pins σ H s) : s.heap.FunFrames X.base X.outer := by
  have all : ∀ (l : List Env), (∀ b ∈ frs l, b ∈ X.fs) → X.s₀.heap.FunFrames X.base l → s.heap.FunFrames X.base l := by
    intro l
    induction l with
    | nil => intro _ _; trivial
    | cons env r ih =>
      intro hs hl
      obtain ⟨hk, ⟨L, o, hf, hn, ho, hd⟩, hr⟩ := hl
      have hL : L ∈ X.fs := hs L (by unfold frs; rw [List.filterMap_cons, hf]; exact List.mem_cons_self)
      obtain ⟨sl, e⟩ := I.base.slot L o ho (I.ok.frf L hL) hL fun z => I.ok.exfs L z hL
      exact ⟨hk, ⟨L, _, hf, hn, e, hd⟩, ih (fun b hb => hs b (by unfold frs; rw [List.filterMap_cons, hf]; exact List.mem_cons_of_mem _ hb)) hr⟩
  exact all X.outer (fun _ hb => hb) I.ok.funs

/-- the frames that run, for a call -/
theorem Inv.stack (I : Inv X pins σ H s) : s.heap.FunFrames X.base X.stack := by
  rcases I.ok.stk with e | ⟨e, hf⟩
  · rw [e]; exact I.funs
  · rw [e]
    obtain ⟨m, hn, _⟩ := I.loc
    refine .cons (by rw [I.ok.kind]; decide) hf hn ?_ I.funs
    exact Heap.get?_none_of_le (Nat.le_trans I.ok.bsz I.ok.above)
theorem Inv.stkSub (I : Inv X pins σ H s) : ∀ b ∈ frs X.stack, b ∈ X.env.locals :: X.fs := fun b hb => by
  rcases I.ok.stk with e | ⟨e, hf⟩
  · rw [e] at hb; exact List.mem_cons_of_mem _ hb
  · rw [e] at hb
    unfold frs at hb
    rw [List.filterMap_cons, hf] at hb
    exact hb
theorem Inv.stkFree (I : Inv X pins σ H s) : ∀ b ∈ frs X.stack, H b = none := fun b hb => by
  rcases List.mem_cons.mp (I.stkSub b hb) with e | hb
  · rw [e]; exact I.free
  · obtain ⟨_, o, ho, _⟩ := I.ok.funs.mem hb
    exact I.base.free b o ho (I.ok.frf b hb) fun z => I.ok.exfs b z hb

/-- THE STEP: the untracked objects but the frame and the records at ch are kept (the callers' frames up to slots), the frame's map is kept, the new abstract heap is held -/
theorem Inv.step {g' : Array GenState} {t' : Nat} {d' : Drawn} {ch : List Addr} (I : Inv X pins σ H s)
    (hch : ∀ b ∈ ch, (b ∈ X.ex ∨ X.s₀.heap.objs.size ≤ b) ∧ b ≠ X.env.locals ∧ (∀ x c, X.env.cells.lookup x = some c → c ≠ b) ∧ ∀ p ∈ X.pn ++ pins, p.1 ≠ b)
    (keep : ∀ b o, b ≠ X.env.locals → b ∉ X.fs → b ∉ ch → s.heap.get? b = some o → H b = none → h'.get? b = some o)
    (slot : ∀ b o, b ≠ X.env.locals → b ∈ X.fs → b ∉ ch → s.heap.get? b = some o → H b = none → ∃ sl, h'.get? b = some { o with slots := sl }) (free : ∀ b o, b ∉ ch → s.heap.get? b = some o → H b = none → H' b = none)
    (there : ∀ b o, b ∉ ch → s.heap.get? b = some o → ∃ o', h'.get? b = some o')
    (tups : ∀ b xs, H b = some (.tup xs) → H' b = some (.tup xs)) (frzs : ∀ b o u, H b = some (.frz o u) → H' b = some (.frz o u)) (tbls : ∀ b ps, H b = some (.tbl ps) → ∃ more, H' b = some (.tbl (ps ++ more)))
    (ns : ∀ m, s.heap.Ns X.env.locals m → h'.Ns X.env.locals m) (hok : HOk X.prog X.w H' h') (hg : AllBare g') :
    Inv X pins σ H' { s with heap := h', gens := g', drawn := d', toks := t' } := by
  have neL : ∀ b o, X.s₀.heap.get? b = some o → b ≠ X.env.locals := fun b o e => Nat.ne_of_lt (Nat.lt_of_lt_of_le (Heap.lt_size e) I.ok.above)
  have neC : ∀ b o, X.s₀.heap.get? b = some o → b ∉ X.ex → b ∉ ch := fun b o e hx hb => by
    rcases (hch b hb).1 with z | z
    · exact hx z
    · exact absurd (Nat.lt_of_lt_of_le (Heap.lt_size e) z) (Nat.lt_irrefl _)
  have cellK : ∀ x c, X.env.cells.lookup x = some c → ∀ v, s.heap.IsCell c v → h'.IsCell c v := fun x c e v ⟨o, ho, hd⟩ => by
    have nch : c ∉ ch := fun z => (hch c z).2.2.1 x c e rfl
    by_cases hc : c ∈ X.fs
    · obtain ⟨sl, q⟩ := slot c o (I.cne x c e) hc nch ho (I.freeC x c e)
      exact ⟨_, q, hd⟩
    · exact ⟨o, keep c o (I.cne x c e) hc nch ho (I.freeC x c e), hd⟩
  refine ⟨I.ok, I.os, hg, ⟨fun b o e n hb hx => ?_, fun b o e n hb hx => ?_, fun b o e n hx => ?_, fun b o e hx => ?_, fun b xs e => tups b xs (I.base.tups b xs e), fun b o xs e => frzs b o xs (I.base.frzs b o xs e), fun b ps e => ?_⟩, ?_, fun x c e => ?_, ?_, fun x c e => ?_, fun p hp => ?_, hok, I.len⟩
  · exact keep b o (neL b o e) hb (neC b o e hx) (I.base.keep b o e n hb hx) (I.base.free b o e n hx)
  · obtain ⟨sl, e1⟩ := I.base.slot b o e n hb hx
    obtain ⟨sl', e2⟩ := slot b _ (neL b o e) hb (neC b o e hx) e1 (I.base.free b o e n hx)
    exact ⟨sl', e2⟩
  · obtain ⟨o', e1⟩ := I.base.there b o e hx
    exact free b o' (neC b o e hx) e1 (I.base.free b o e n hx)
  · obtain ⟨o', e1⟩ := I.base.there b o e hx
    exact there b o' (neC b o e hx) e1
  · obtain ⟨m1, e1⟩ := I.base.tbls b ps e
    obtain ⟨m2, e2⟩ := tbls b _ e1
    exact ⟨m1 ++ m2, by rw [e2, Array.append_assoc]⟩
  · obtain ⟨m, hn, hl⟩ := I.loc
    refine ⟨m, ns m hn, fun i x v e1 e2 e3 => ?_⟩
    obtain ⟨u, r, l⟩ := hl i x v e1 e2 e3
    refine ⟨u, r, ?_⟩
    rcases l with l | ⟨k, c, e, z⟩
    · exact .inl l
    · exact .inr ⟨k, c, e, cellK x c e _ z⟩
  · obtain ⟨v, z⟩ := I.cell x c e
    exact ⟨v, cellK x c e v z⟩
  · obtain ⟨m, ⟨o, _, _, ho, _⟩, _⟩ := I.loc
    exact free _ o (fun z => (hch _ z).2.1 rfl) ho I.free
  · obtain ⟨v, o, ho, hd⟩ := I.cell x c e
    exact free c o (fun z => (hch c z).2.2.1 x c e rfl) ho (I.freeC x c e)
  · obtain ⟨e, n, ne, nf, d⟩ := I.pin p hp
    have nch : p.1 ∉ ch := fun z => (hch p.1 z).2.2.2 p hp rfl
    exact ⟨keep p.1 p.2 ne nf nch e n, free p.1 p.2 nch e n, ne, nf, d⟩
/-- .. where the frame's own object is kept too -/
theorem Inv.un {t' : Nat} (I : Inv X pins σ H s) (u : Un X.fs [] H H' s.heap h') (hok : HOk X.prog X.w H' h') : Inv X pins σ H' { s with heap := h', toks := t' } := by
  obtain ⟨m, ⟨o, es, ep, ho, r⟩, _⟩ := id I.loc
  obtain ⟨sl, hL⟩ := u.any ho I.free (by simp)
  exact I.step (g' := s.gens) (d' := s.drawn) (ch := []) (fun _ z => nomatch z) (fun b o _ hb _ e n => u.keep b o e n hb (by simp)) (fun b o _ hb _ e n => u.slot b o e n hb (by simp)) (fun b o _ e n => u.free b o e n (by simp)) (fun b o _ e => u.there b o e (by simp)) u.tups u.frzs u.tbls (fun m' hm => by
    obtain ⟨o', es', ep', ho', r'⟩ := hm
    rw [ho] at ho'; cases ho'
    exact ⟨_, es', ep', hL, r'⟩) hok I.bare
/-- behind a call (or a comprehension's block): the slots of this frame may have changed too, the records at ch may have turned -/
theorem Inv.call {g' : Array GenState} {t' : Nat} {d' : Drawn} {ch : List Addr} (I : Inv X pins σ H s) (u : Un (frs X.stack) ch H H' s.heap h') (hok : HOk X.prog X.w H' h') (hg : AllBare g')
    (hch : ∀ b ∈ ch, (b ∈ X.ex ∨ X.s₀.heap.objs.size ≤ b) ∧ b ≠ X.env.locals ∧ (∀ x c, X.env.cells.lookup x = some c → c ≠ b) ∧ ∀ p ∈ X.pn ++ pins, p.1 ≠ b) :
    Inv X pins σ H' { s with heap := h', gens := g', drawn := d', toks := t' } := by
  obtain ⟨m, ⟨o, es, ep, ho, r⟩, _⟩ := id I.loc
  obtain ⟨sl, hL⟩ := u.any ho I.free fun z => (hch _ z).2.1 rfl
  exact I.step (ch := ch) hch (fun b o hL hb hc e n => u.keep b o e n (fun z => (List.mem_cons.mp (I.stkSub b z)).elim hL hb) hc) (fun b o _ _ hc e n => u.any e n hc) (fun b o hc e n => u.free b o e n hc) (fun b o hc e => u.there b o e hc) u.tups u.frzs u.tbls (fun m' hm => by
    obtain ⟨o', es', ep', ho', r'⟩ := hm
    rw [ho] at ho'; cases ho'
    exact ⟨_, es', ep', hL, r'⟩) hok hg
/-- an untracked record of ours (an iterator) has turned -/
theorem Inv.turned {t' : Nat} {it : Addr} (I : Inv X pins σ H s) (k : ∀ b o, b ≠ it → s.heap.get? b = some o → h'.get? b = some o) (hn : H it = none) (hL : it ≠ X.env.locals)
    (h1 : it ∈ X.ex ∨ X.s₀.heap.objs.size ≤ it) (h2 : ∀ x c, X.env.cells.lookup x = some c → c ≠ it) (h3 : ∀ p ∈ X.pn ++ pins, p.1 ≠ it) : Inv X pins σ H { s with heap := h', toks := t' } := by
  have nit : ∀ b u, H b = some u → b ≠ it := fun b u e z => by rw [z, hn] at e; cases e
  refine I.step (g' := s.gens) (d' := s.drawn) (ch := [it]) (fun b hb => ?_) (fun b o _ _ hc e _ => k b o (fun z => hc (by simp [z])) e) (fun b o _ _ hc e _ => ⟨o.slots, k b o (fun z => hc (by simp [z])) e⟩) (fun _ _ _ _ n => n)
    (fun b o hc e => ⟨o, k b o (fun z => hc (by simp [z])) e⟩) (fun _ _ e => e) (fun _ _ _ e => e) (fun b ps e => ⟨#[], by rw [e]; simp⟩) (fun m hm => ?_) (fun b u e => ?_) I.bare
  · have e : b = it := by simpa using hb
    subst e
    exact ⟨h1, hL, h2, h3⟩
  · obtain ⟨o, es, ep, ho, r⟩ := hm
    exact ⟨o, es, ep, k _ o (Ne.symm hL) ho, r⟩
  · refine (I.hok b u e).stay (fun c v hc q => k c v ?_ q) (fun _ q => q) fun _ _ q => q
    rcases hc with z | z
    · rw [z]; exact nit b u e
    · exact nit c _ z
theorem Inv.tok (I : Inv X pins σ H s) (t : Nat) : Inv X pins σ H { s with toks := t } := I.un (h' := s.heap) (t' := t) Un.refl I.hok
/-- all objects kept -/
theorem Inv.kept {t' : Nat} (I : Inv X pins σ H s) (k : ∀ b u, s.heap.get? b = some u → h'.get? b = some u) : Inv X pins σ H { s with heap := h', toks := t' } := I.un (Un.kept k) (I.hok.kept k)
/-- a new object laid and tracked -/
theorem Inv.laid {a : Addr} {o : HO} {t' : Nat} (I : Inv X pins σ H s) (k : ∀ b u, s.heap.get? b = some u → h'.get? b = some u) (hp : s.heap.objs.size ≤ a) (new : ObjOk X.prog X.w (upd H a o) h' a o) :
    Inv X pins σ (upd H a o) { s with heap := h', toks := t' } := I.un (Un.laid k hp (I.hok.fresh hp)) (I.hok.laid k hp new)
/-- an object written -/
theorem Inv.write {x e : Addr} {o : HO} {t' : Nat} (I : Inv X pins σ H s) (mu : Mut (H x)) (he : e = x ∨ H e = some (.own x)) (k : ∀ b u, b ≠ e → s.heap.get? b = some u → h'.get? b = some u) (heo : ∃ u, h'.get? e = some u)
    (new : ObjOk X.prog X.w (upd H x o) h' x o) : Inv X pins σ (upd H x o) { s with heap := h', toks := t' } := I.un (Un.write mu he k heo) (I.hok.write mu he k heo new)
/-- forgetting slots, pins -/
theorem Inv.weak {σ' : List (Option V)} (I : Inv X pins σ H s) (hl : σ'.length = σ.length) (w : ∀ (i : Nat) v, σ'[i]? = some (some v) → σ[i]? = some (some v)) : Inv X pins σ' H s :=
  ⟨I.ok, I.os, I.bare, I.base, let ⟨m, hn, hl'⟩ := I.loc; ⟨m, hn, fun i x v e1 e2 e3 => hl' i x v e1 (w i v e2) e3⟩, I.cell, I.free, I.freeC, I.pin, I.hok, hl.trans I.len⟩
theorem Inv.pins_of {pins' : List (Addr × Obj)} (I : Inv X pins σ H s) (h : ∀ p ∈ pins', s.heap.get? p.1 = some p.2 ∧ H p.1 = none ∧ p.1 ≠ X.env.locals ∧ p.1 ∉ X.fs ∧ ∀ v, p.2.data ≠ .cell v) : Inv X pins' σ H s :=
  ⟨I.ok, I.os, I.bare, I.base, I.loc, I.cell, I.free, I.freeC, fun p hp => (List.mem_append.mp hp).elim (fun z => I.pin p (List.mem_append_left _ z)) (h p), I.hok, I.len⟩

theorem nodup_ix {N : List Str} (hN : N.Nodup) {i j : Nat} {x : Str} (a : N[i]? = some x) (b : N[j]? = some x) : i = j := by
  obtain ⟨h1, e1⟩ := List.getElem?_eq_some_iff.mp a
  obtain ⟨h2, e2⟩ := List.getElem?_eq_some_iff.mp b
  exact (List.getElem_inj hN).mp (e1.trans e2.symm)

/-- a name is stored; what changed -/
theorem store_ok2 {M : Model} {A : Around} {E : Value → Shared → Prop} {i : Nat} {x : Str} {v : V} {u : Value} {Q : Unit → Shared → Prop} (I : Inv X pins σ H s) (hN : X.N.Nodup) (hi : X.N[i]? = some x) (hx : Loc X.env.scope x) (r : RelV v u)
    (h : ∀ s', Inv X pins (σ.set i (some v)) H s' → (∃ a, Heap.SameBut a s.heap s'.heap ∧ (a = X.env.locals ∨ X.env.cells.lookup x = some a)) → Q () s') (hf : X.fn x = true ∨ X.env.scope.names.lookup x = some .local := by first | exact .inl rfl | exact .inr rfl | assumption) : wpAny M A (storeName X.env x u) Q E s := by
  obtain ⟨m, hn, hl⟩ := id I.loc
  have hcls : (X.env.scope.kind == .class || (X.env.scope.kind == .module && X.env.locals != X.env.globals)) = false := by rw [I.ok.kind]; rfl
  have hiσ : i < σ.length := by rw [I.len]; exact (List.getElem?_eq_some_iff.mp hi).1
  have cne := I.cne
  have tracked : ∀ {a : Addr} {h' : Heap}, (∃ o, s.heap.get? a = some o ∧ H a = none) → Heap.SameBut a s.heap h' → HOk X.prog X.w H h' := fun {a h'} ha hs b ob e => by
    obtain ⟨_, _, hfree⟩ := ha
    refine (I.hok b ob e).stay (fun c w' hc q => (hs.2 c ?_).trans q) (fun _ q => q) fun _ _ q => q
    rintro rfl
    rcases hc with rfl | hc
    · rw [hfree] at e; cases e
    · rw [hfree] at hc; cases hc
  rcases hx with hk | hk
  · refine wpAny_storeName_local hk hn (fun h' hn' hs => ?_) hcls
    obtain ⟨oL, _, _, hoL, _⟩ := id hn
    refine h _ ⟨I.ok, I.os, I.bare, ⟨fun b o e n hb hx => ?_, fun b o e n hb hx => ?_, I.base.free, fun b o e hx => ?_, I.base.tups, I.base.frzs, I.base.tbls⟩, ⟨_, hn', fun j y v' e1 e2 e3 => ?_⟩, fun y c e => ?_, I.free, I.freeC, fun p hp => ?_, tracked ⟨oL, hoL, I.free⟩ hs, by simpa using I.len⟩ ⟨_, hs, .inl rfl⟩
    · exact (hs.2 b (Nat.ne_of_lt (Nat.lt_of_lt_of_le (Heap.lt_size e) I.ok.above))).trans (I.base.keep b o e n hb hx)
    · obtain ⟨sl, e1⟩ := I.base.slot b o e n hb hx
      exact ⟨sl, (hs.2 b (Nat.ne_of_lt (Nat.lt_of_lt_of_le (Heap.lt_size e) I.ok.above))).trans e1⟩
    · obtain ⟨o', e1⟩ := I.base.there b o e hx
      exact ⟨o', (hs.2 b (Nat.ne_of_lt (Nat.lt_of_lt_of_le (Heap.lt_size e) I.ok.above))).trans e1⟩
    · by_cases hj : j = i
      · subst hj
        rw [hi] at e1; cases e1
        rw [List.getElem?_set_self hiσ] at e2
        cases e2
        exact ⟨u, r, .inl ⟨hk, by simp⟩⟩
      · rw [List.getElem?_set_ne (Ne.symm hj)] at e2
        obtain ⟨u', r', q⟩ := hl j y v' e1 e2 e3
        refine ⟨u', r', ?_⟩
        rcases q with ⟨k, e⟩ | ⟨k, c, e, z⟩
        · refine .inl ⟨k, ?_⟩
          have : y ≠ x := fun e => hj (nodup_ix hN e1 (e ▸ hi))
          simp [this, e]
        · exact .inr ⟨k, c, e, z.sameBut hs (cne y c e)⟩
    · obtain ⟨w', z⟩ := I.cell y c e
      exact ⟨w', z.sameBut hs (cne y c e)⟩
    · obtain ⟨e, n, ne, nf, d⟩ := I.pin p hp
      exact ⟨(hs.2 p.1 ne).trans e, n, ne, nf, d⟩
  · have hfn : X.fn x = true := by
      rcases hf with z | z
      · exact z
      · rw [z] at hk; cases hk
    obtain ⟨c, hc⟩ := I.ok.has x (.inl hk)
    obtain ⟨w', z⟩ := I.cell x c hc
    refine wpAny_storeName_cell I.ok.kind hk hc z (fun h' hc' hs => ?_)
    obtain ⟨oc, hoc, hocd⟩ := id z
    refine h { s with heap := h' } ⟨I.ok, I.os, I.bare, ⟨fun b o e n hb hx => ?_, fun b o e n hb hx => ?_, I.base.free, fun b o e hx => ?_, I.base.tups, I.base.frzs, I.base.tbls⟩, ⟨m, hn.sameBut hs (Ne.symm (cne x c hc)), fun j y v' e1 e2 e3 => ?_⟩, fun y c' e => ?_, I.free, I.freeC, fun p hp => ?_, tracked ⟨oc, hoc, I.freeC x c hc⟩ hs, by simpa using I.len⟩ ⟨c, hs, .inr hc⟩
    · exact (hs.2 b (Nat.ne_of_lt (Nat.lt_of_lt_of_le (Heap.lt_size e) (I.ok.cab x c hfn hc)))).trans (I.base.keep b o e n hb hx)
    · obtain ⟨sl, e1⟩ := I.base.slot b o e n hb hx
      exact ⟨sl, (hs.2 b (Nat.ne_of_lt (Nat.lt_of_lt_of_le (Heap.lt_size e) (I.ok.cab x c hfn hc)))).trans e1⟩
    · obtain ⟨o', e1⟩ := I.base.there b o e hx
      exact ⟨o', (hs.2 b (Nat.ne_of_lt (Nat.lt_of_lt_of_le (Heap.lt_size e) (I.ok.cab x c hfn hc)))).trans e1⟩
    · by_cases hj : j = i
      · subst hj
        rw [hi] at e1; cases e1
        rw [List.getElem?_set_self hiσ] at e2
        cases e2
        exact ⟨u, r, .inr ⟨.inl hk, c, hc, hc'⟩⟩
      · rw [List.getElem?_set_ne (Ne.symm hj)] at e2
        obtain ⟨u', r', q⟩ := hl j y v' e1 e2 e3
        refine ⟨u', r', ?_⟩
        rcases q with q | ⟨k, c', e, z'⟩
        · exact .inl q
        · refine .inr ⟨k, c', e, z'.sameBut hs ?_⟩
          rintro rfl
          exact hj (nodup_ix hN e1 (I.ok.inj _ _ _ e hc ▸ hi))
    · by_cases hcc : c' = c
      · subst hcc; exact ⟨_, hc'⟩
      · obtain ⟨w2, z2⟩ := I.cell y c' e
        exact ⟨w2, z2.sameBut hs hcc⟩
    · obtain ⟨e, n, ne, nf, d⟩ := I.pin p hp
      refine ⟨(hs.2 p.1 ?_).trans e, n, ne, nf, d⟩
      intro q
      rw [q, hoc] at e
      have q' : oc = p.2 := Option.some.inj e
      exact d w' (by rw [← q']; exact hocd)
theorem store_ok {M : Model} {A : Around} {E : Value → Shared → Prop} {i : Nat} {x : Str} {v : V} {u : Value} {Q : Unit → Shared → Prop} (I : Inv X pins σ H s) (hN : X.N.Nodup) (hi : X.N[i]? = some x) (hx : Loc X.env.scope x) (r : RelV v u)
    (h : ∀ s', Inv X pins (σ.set i (some v)) H s' → Q () s') (hf : X.fn x = true ∨ X.env.scope.names.lookup x = some .local := by first | exact .inl rfl | exact .inr rfl | assumption) : wpAny M A (storeName X.env x u) Q E s :=
  store_ok2 I hN hi hx r (fun s' I' _ => h s' I') hf
/-- behind a call or a block, the state as it is -/
theorem Inv.call' {s' : Shared} {ch : List Addr} (I : Inv X pins σ H s) (ho : s'.os = s.os) (u : Un (frs X.stack) ch H H' s.heap s'.heap) (hok : HOk X.prog X.w H' s'.heap) (hg : AllBare s'.gens)
    (hch : ∀ b ∈ ch, (b ∈ X.ex ∨ X.s₀.heap.objs.size ≤ b) ∧ b ≠ X.env.locals ∧ (∀ x c, X.env.cells.lookup x = some c → c ≠ b) ∧ ∀ p ∈ X.pn ++ pins, p.1 ≠ b) : Inv X pins σ H' s' := by
  obtain ⟨h', g', d', t', o'⟩ := s'
  have e : o' = s.os := ho
  subst e
  exact I.call (g' := g') (t' := t') (d' := d') u hok hg hch
end

/-! ### the judgements -/
/-- an exception: its class, its own dict's address (where it has one), the abstract heap behind it -/
abbrev XK := Value → Option Addr → Hp → Prop
abbrev St := List (Option V)
abbrev VK := V → Hp → Prop
/-- an expression's reading; a test's; an argument list's -/
abbrev TE := St → Hp → VK → Prop
abbrev TT := St → Hp → (Bool → Hp → Prop) → Prop
abbrev TA := St → Hp → (List V → Hp → Prop) → Prop
/-- what is wanted behind a statement -/
structure Ends where
  nx : St → Hp → Prop
  rt : VK
  bk : St → Hp → Prop := fun _ _ => False
  ct : St → Hp → Prop := fun _ _ => False
abbrev TS := Ends → St → Hp → Prop

def EP (X : Cx) (pins : List (Addr × Obj)) (σ : St) (Q : VK) (u : Value) (s' : Shared) : Prop := ∃ v H', Inv X pins σ H' s' ∧ RelV v u ∧ Q v H'
def TP (X : Cx) (pins : List (Addr × Obj)) (σ : St) (Q : Bool → Hp → Prop) (b : Bool) (s' : Shared) : Prop := ∃ H', Inv X pins σ H' s' ∧ Q b H'
def AP (X : Cx) (pins : List (Addr × Obj)) (σ : St) (Q : List V → Hp → Prop) (us : List Value) (s' : Shared) : Prop := ∃ vs H', Inv X pins σ H' s' ∧ Vals vs us ∧ Q vs H'
def SP (X : Cx) (pins : List (Addr × Obj)) (D : Ends) (f : Flow) (s' : Shared) : Prop :=
  match f with
  | .next => ∃ σ' H', Inv X pins σ' H' s' ∧ D.nx σ' H'
  | .brk => ∃ σ' H', Inv X pins σ' H' s' ∧ D.bk σ' H'
  | .cont => ∃ σ' H', Inv X pins σ' H' s' ∧ D.ct σ' H'
  | .ret u => ∃ v σ' H', Inv X pins σ' H' s' ∧ RelV v u ∧ D.rt v H'

def PE (X : Cx) (e : Expr) (t : TE) : Prop :=
  ∀ (pins : List (Addr × Obj)) (s : Shared) (σ : St) (H : Hp) (Q : VK), Inv X pins σ H s → t σ H Q → wpAny (model X.prog X.w) X.A (eval e X.env) (EP X pins σ Q) X.xe s
def PT (X : Cx) (e : Expr) (t : TT) : Prop :=
  ∀ (pins : List (Addr × Obj)) (s : Shared) (σ : St) (H : Hp) (Q : Bool → Hp → Prop), Inv X pins σ H s → t σ H Q → wpAny (model X.prog X.w) X.A (isTrue e X.env (eval e X.env)) (TP X pins σ Q) X.xe s
/-- a test whatever its 'whole' is (and, or) -/
def PW (X : Cx) (e : Expr) (t : TT) : Prop :=
  ∀ (whole : Sem Value) (pins : List (Addr × Obj)) (s : Shared) (σ : St) (H : Hp) (Q : Bool → Hp → Prop), Inv X pins σ H s → t σ H Q → wpAny (model X.prog X.w) X.A (isTrue e X.env whole) (TP X pins σ Q) X.xe s
theorem PW.pt {X : Cx} {e : Expr} {t : TT} (h : PW X e t) : PT X e t := h _
/-- an argument list (no star), from the left -/
def PA (X : Cx) (es : List Expr) (t : TA) : Prop :=
  ∀ (pos : Pos) (pins : List (Addr × Obj)) (s : Shared) (σ : St) (H : Hp) (Q : List V → Hp → Prop), Inv X pins σ H s → t σ H Q → wpAny (model X.prog X.w) X.A (spliced (backTo pos (starEach es X.env))) (AP X pins σ Q) X.xe s
def PS (X : Cx) (st : Stmt) (t : TS) : Prop :=
  ∀ (pins : List (Addr × Obj)) (s : Shared) (σ : St) (H : Hp) (D : Ends), Inv X pins σ H s → t D σ H → wpAny (model X.prog X.w) X.A (exec st X.env) (SP X pins D) X.xe s
def PSs (X : Cx) (st : List Stmt) (t : TS) : Prop :=
  ∀ (pins : List (Addr × Obj)) (s : Shared) (σ : St) (H : Hp) (D : Ends), Inv X pins σ H s → t D σ H → wpAny (model X.prog X.w) X.A (execs st X.env) (SP X pins D) X.xe s
/-- weaken the end -/
theorem thn {α : Type} {t : Sem α} {Q Q' : α → Shared → Prop} {M : Model} {A : Around} {E : Value → Shared → Prop} {s : Shared} (h : wpAny M A t Q E s) (hQ : ∀ a s, Q a s → Q' a s) : wpAny M A t Q' E s := wpAny_mono h hQ fun _ _ x => x
end L2

namespace L2
open PySem PySem.Spec PyProof.Rows
section
variable {X : Cx}


/-! ### names and constants -/
def tVar (i : Nat) : TE := fun σ H Q => ∃ v, σ[i]? = some (some v) ∧ Q v H
def tC (v : V) : TE := fun _ H Q => Q v H
theorem pe_var {i : Nat} {x : Str} {pos : Pos} (hN : X.N[i]? = some x) (hv : Vis X.env.scope x) (hd : (x == ("__debug__" : Str)) = false := by decide) (hcd : (x == ("__classdict__" : Str)) = false := by decide) : PE X (.Name x pos) (tVar i) := by
  intro pins s σ H Q I h
  obtain ⟨v, e, h⟩ := h
  obtain ⟨m, hn, hl⟩ := I.loc
  obtain ⟨u, r, l⟩ := hl i x v hN e hv
  have fin : EP X pins σ Q u s := ⟨v, H, I, r, h⟩
  rcases l with ⟨hk, hm⟩ | ⟨hk, c, hc, hcell⟩
  · exact wpAny_Name (wpAny_loadName_local I.ok.kind hk hn hm fin) hd
  · rcases hk with hk | hk
    · exact wpAny_Name (wpAny_loadName_cell I.ok.kind hk hc hcell fin) hd
    · exact wpAny_Name (wpAny_loadName_free I.ok.kind hk hc hcell fin hcd) hd
theorem pe_int {i j pos} : PE X (.Constant (.int i) j pos) (tC (.int i)) := fun _ _ _ H _ I h => wpAny_Constant_int ⟨.int i, H, I.tok _, ⟨_, rfl⟩, h⟩
theorem pe_bl {b j pos} : PE X (.Constant (.bool b) j pos) (tC (.bl b)) := fun _ _ _ H _ I h => Constant_bool ⟨.bl b, H, I, rfl, h⟩

/-- a global name of the def -/
def Gl (X : Cx) (x : Str) : Prop := X.env.kindOf x = some .globalImplicit
theorem ld_glob {E : Value → Shared → Prop} {pins : List (Addr × Obj)} {s : Shared} {σ : St} {H : Hp} {x : Str} {u : Value} {pos : Pos} {Q : Value → Shared → Prop} (I : Inv X pins σ H s) (hg : Gl X x) (hm : X.mg x = some u) (h : Q u s)
    (hd : (x == ("__debug__" : Str)) = false := by decide) : wpAny (model X.prog X.w) X.A (eval (.Name x pos) X.env) Q E s :=
  Calls.Name_function_global I.ok.kind hg (Calls.loadGlobal_global (by rw [I.ok.glob]; exact I.mod.glob.keeps I.bk) hm h) hd
theorem ld_blt {E : Value → Shared → Prop} {pins : List (Addr × Obj)} {s : Shared} {σ : St} {H : Hp} {x : Str} {u : Value} {pos : Pos} {Q : Value → Shared → Prop} (I : Inv X pins σ H s) (hg : Gl X x) (hm : X.mg x = none) (hv : bootBuiltins x = some u) (h : Q u s)
    (hn : x ≠ "__name__" := by decide) (hd : (x == ("__debug__" : Str)) = false := by decide) : wpAny (model X.prog X.w) X.A (eval (.Name x pos) X.env) Q E s := by
  obtain ⟨mb, h1, h2⟩ := I.mod.blt
  exact Calls.Name_function_global I.ok.kind hg (Calls.loadGlobal_builtin (by rw [I.ok.glob]; exact I.mod.glob.keeps I.bk) hm (by rw [I.ok.blt]; exact h1.keeps I.bk) ((h2 x hn).trans hv) h) hd
/-- a module's constant, a class, a function, as a value -/
theorem pe_glob {x : Str} {v : V} {u : Value} {pos : Pos} (hg : Gl X x) (hm : X.mg x = some u) (r : RelV v u) (hd : (x == ("__debug__" : Str)) = false := by decide) : PE X (.Name x pos) (tC v) :=
  fun _ _ _ H _ I h => ld_glob I hg hm ⟨v, H, I, r, h⟩ hd
theorem pe_bltn {x : Str} {v : V} {u : Value} {pos : Pos} (hg : Gl X x) (hm : X.mg x = none) (hv : bootBuiltins x = some u) (r : RelV v u) (hn : x ≠ "__name__" := by decide) (hd : (x == ("__debug__" : Str)) = false := by decide) : PE X (.Name x pos) (tC v) :=
  fun _ _ _ H _ I h => ld_blt I hg hm hv ⟨v, H, I, r, h⟩ hn hd

/-! ### arithmetic -/
variable {a b : Expr} {ta tb : TE} {pos : Pos}

/-! ### comparisons -/
/-- a comparison as a value, as a test -/
def tB (t : TE) : TT := fun σ H Q => t σ H fun x H1 => ∃ c, x = .bl c ∧ Q c H1
/-- an expression whose value is a bool, as a test -/
theorem pt_val {e : Expr} {t : TE} (h : PE X e t) (he : ∀ whole, isTrue e X.env whole = (do let v ← whole; standAt e.pos; holding [v] (truthy v)) := by intro _; rfl) : PT X e (tB t) := by
  intro pins s σ H Q I hw
  refine isTrue_plain (thn (h pins s σ H _ I hw) fun v s1 ⟨x, H1, I1, r1, q1⟩ => ?_) (he _)
  obtain ⟨d, rfl, q⟩ := q1
  cases r1
  exact wpAny_truthy_bool ⟨H1, I1, q⟩

/-! ### and, or, not -/
variable {tA tB' : TT} {rest : List Expr}
def tOr (t u : TT) : TT := fun σ H Q => t σ H fun c H1 => if c = true then Q true H1 else u σ H1 Q
def tNot (t : TT) : TT := fun σ H Q => t σ H fun c H1 => Q (!c) H1
theorem pw_or1 (ha : PT X a tA) : PW X (.BoolOp .Or [a] pos) tA := by
  intro wh pins s σ H Q I h
  refine isTrue_or (thn (ha pins s σ H Q I h) fun c s1 e => ?_)
  cases c with
  | false => exact isTrue_or_nil e
  | true => exact e
theorem pw_or (ha : PT X a tA) (hb : PW X (.BoolOp .Or (b :: rest) pos) tB') : PW X (.BoolOp .Or (a :: b :: rest) pos) (tOr tA tB') := by
  intro wh pins s σ H Q I h
  refine isTrue_or (thn (ha pins s σ H _ I h) fun c s1 ⟨H1, I1, q1⟩ => ?_)
  cases c with
  | true => exact ⟨H1, I1, q1⟩
  | false => exact hb wh pins s1 σ H1 Q I1 q1
theorem pt_not (ha : PT X a tA) : PT X (.UnaryOp .Not a pos) (tNot tA) := by
  intro pins s σ H Q I h
  exact isTrue_not (ha pins s σ H (fun c H1 => Q (!c) H1) I h)
/-- .. as values (bools) -/
def tAndV (ta tb : TE) : TE := fun σ H Q => ta σ H fun x H1 => ∃ c, x = .bl c ∧ if c = true then tb σ H1 Q else Q (.bl false) H1
def tNotV (ta : TE) : TE := fun σ H Q => ta σ H fun x H1 => ∃ c, x = .bl c ∧ Q (.bl (!c)) H1
theorem pe_one {op} {t : TE} (h : PE X a t) : PE X (.BoolOp op [a] pos) t := fun pins s σ H Q I hw => BoolOp_one (h pins s σ H Q I hw)
theorem pe_and (ha : PE X a ta) (hb : PE X (.BoolOp .And (b :: rest) pos) tb) : PE X (.BoolOp .And (a :: b :: rest) pos) (tAndV ta tb) := by
  intro pins s σ H Q I h
  refine BoolOp_and (thn (ha pins s σ H _ I h) fun v s1 ⟨x, H1, I1, r1, q1⟩ => ?_)
  obtain ⟨c, rfl, q1⟩ := q1
  cases r1
  refine wpAny_truthy_bool ?_
  cases c with
  | true => exact hb pins s1 σ H1 Q I1 q1
  | false => exact ⟨.bl false, H1, I1, rfl, q1⟩
theorem pe_not (ha : PE X a ta) : PE X (.UnaryOp .Not a pos) (tNotV ta) := by
  intro pins s σ H Q I h
  refine UnaryOp_ (thn (ha pins s σ H _ I h) fun v s1 ⟨x, H1, I1, r1, q1⟩ => ?_)
  obtain ⟨c, rfl, q1⟩ := q1
  cases r1
  exact not_of (wpAny_truthy_bool ⟨.bl (!c), H1, I1, rfl, q1⟩)
end
end L2

namespace L2
open PySem PySem.Spec PyProof.Rows

/-! ### a list, a tuple that is read: tracked, frozen, or an object of the module -/
def SqL (K : PySem.W.Frag) (H : Hp) (a : Addr) (xs : List V) : Prop :=
  Rd H a (.lst xs) ∨
    ∃ (o : Obj) (its : Array Value) (n : Nat), K.lookup a = some o ∧ o.cls = .type "list" ∧ o.dict = none ∧ o.data = .seq its n ∧ its.size ≤ sizeLine ∧ Vals xs its.toList
def SqT (K : PySem.W.Frag) (H : Hp) (a : Addr) (xs : List V) : Prop :=
  Rd H a (.tup xs) ∨
    ∃ (o : Obj) (its : Array Value) (n : Nat), K.lookup a = some o ∧ o.cls = .type "tuple" ∧ o.data = .seq its n ∧ its.size ≤ sizeLine ∧ Vals xs its.toList
def absV : Value → Option V
  | .none => some .non
  | .bool b => some (.bl b)
  | .int i _ => some (.int i)
  | .str x _ => some (.str x)
  | .bytes b _ => some (.byt b)
  | .float b _ => some (.flt b)
  | .ref a => some (.ref a)
  | .type n => some (.ty n)
  | _ => none
theorem RelV.abs {x : V} {u : Value} (r : RelV x u) : absV u = some x := by
  cases x with
  | non => cases r; rfl
  | bl _ => cases r; rfl
  | int _ => obtain ⟨t, rfl⟩ := r; rfl
  | str _ => obtain ⟨t, rfl⟩ := r; rfl
  | byt _ => obtain ⟨t, rfl⟩ := r; rfl
  | flt _ => obtain ⟨t, rfl⟩ := r; rfl
  | ref _ => cases r; rfl
  | ty _ => cases r; rfl
theorem RelV.inj {x y : V} {u : Value} (r : RelV x u) (q : RelV y u) : x = y := Option.some.inj (r.abs.symm.trans q.abs)
theorem Vals.inj : ∀ {xs ys : List V} {us : List Value}, Vals xs us → Vals ys us → xs = ys
  | _, _, _, .nil, .nil => rfl
  | _, _, _, .cons r t, .cons r' t' => by rw [r.inj r', Vals.inj t t']
section
variable {X : Cx} {pins : List (Addr × Obj)} {σ : St} {H : Hp} {s : Shared} {a : Addr} {xs ys : List V}
theorem SqL.of {K : PySem.W.Frag} (h : H a = some (.lst xs)) : SqL K H a xs := .inl (.inl h)
theorem SqT.of {K : PySem.W.Frag} (h : H a = some (.tup xs)) : SqT K H a xs := .inl (.inl h)
theorem Inv.list (I : Inv X pins σ H s) (h : SqL X.K H a xs) : ∃ its : List Value, Vals xs its ∧ PlainL s.heap a its.toArray ∧ xs.length ≤ sizeLine := by
  rcases h with h | ⟨o, its, n, hk, hc, hd, hs, hz, r⟩
  · obtain ⟨z, its, n, r, e⟩ := h.ok I.hok
    exact ⟨its, r, ⟨_, n, e, rfl, rfl, rfl⟩, z⟩
  · refine ⟨its.toList, r, ⟨o, n, I.kIn a o hk, hc, hd, by simpa using hs⟩, ?_⟩
    have e := r.length
    simp only [Array.length_toList] at e
    omega
theorem Inv.tuple (I : Inv X pins σ H s) (h : SqT X.K H a xs) : ∃ its : List Value, Vals xs its ∧ IsTup s.heap a its.toArray ∧ xs.length ≤ sizeLine := by
  rcases h with h | ⟨o, its, n, hk, hc, hs, hz, r⟩
  · obtain ⟨z, its, r, p⟩ := h.ok I.hok
    exact ⟨its, r, p, z⟩
  · refine ⟨its.toList, r, ⟨o, I.kIn a o hk, hc, n, by simpa using hs⟩, ?_⟩
    have e := r.length
    simp only [Array.length_toList] at e
    omega
theorem Inv.list_inj (I : Inv X pins σ H s) (h : SqL X.K H a xs) (h' : SqL X.K H a ys) : xs = ys := by
  obtain ⟨its, r, ⟨o, n, e, _, _, d⟩, _⟩ := I.list h
  obtain ⟨its', r', ⟨o', n', e', _, _, d'⟩, _⟩ := I.list h'
  rw [e] at e'; cases e'
  rw [d] at d'
  injection d' with d1 _
  have : its = its' := by simpa using congrArg Array.toList d1
  subst this
  exact r.inj r'
theorem Inv.tuple_inj (I : Inv X pins σ H s) (h : SqT X.K H a xs) (h' : SqT X.K H a ys) : xs = ys := by
  obtain ⟨its, r, ⟨o, e, _, n, d⟩, _⟩ := I.tuple h
  obtain ⟨its', r', ⟨o', e', _, n', d'⟩, _⟩ := I.tuple h'
  rw [e] at e'; cases e'
  rw [d] at d'
  injection d' with d1 _
  have : its = its' := by simpa using congrArg Array.toList d1
  subst this
  exact r.inj r'
end

/-! ### another wish about exceptions -/
abbrev Cx.wish (X : Cx) (E : Value → Shared → Prop) : Cx := { X with xe := E }
/-- no exception leaves -/
abbrev Cx.nox (X : Cx) : Cx := X.wish fun _ _ => False
theorem Cx.Ok.wish {X : Cx} (ok : X.Ok) (E : Value → Shared → Prop) : (X.wish E).Ok :=
  ⟨ok.mod, ok.kind, ok.glob, ok.blt, ok.above, ok.inj, ok.has, ok.cab, ok.hd, ok.frames, ok.stk, ok.exf, ok.bs, ok.bsz, ok.noex, ok.exfs, ok.funs, ok.frf⟩
theorem Cx.Ok.unwish {X : Cx} {E : Value → Shared → Prop} (ok : (X.wish E).Ok) : X.Ok :=
  ⟨ok.mod, ok.kind, ok.glob, ok.blt, ok.above, ok.inj, ok.has, ok.cab, ok.hd, ok.frames, ok.stk, ok.exf, ok.bs, ok.bsz, ok.noex, ok.exfs, ok.funs, ok.frf⟩
section
variable {X : Cx} {pins : List (Addr × Obj)} {σ : St} {H : Hp} {s : Shared} {E : Value → Shared → Prop}
theorem Inv.wish (I : Inv X pins σ H s) (E : Value → Shared → Prop) : Inv (X.wish E) pins σ H s := ⟨I.ok.wish E, I.os, I.bare, I.base, I.loc, I.cell, I.free, I.freeC, I.pin, I.hok, I.len⟩
theorem Inv.unwish (I : Inv (X.wish E) pins σ H s) : Inv X pins σ H s := ⟨I.ok.unwish, I.os, I.bare, I.base, I.loc, I.cell, I.free, I.freeC, I.pin, I.hok, I.len⟩
theorem SP.unwish {D : Ends} {f : Flow} {s' : Shared} (h : SP (X.wish E) pins D f s') : SP X pins D f s' := by
  cases f with
  | next => obtain ⟨σ', H', I, q⟩ := h; exact ⟨σ', H', I.unwish, q⟩
  | brk => obtain ⟨σ', H', I, q⟩ := h; exact ⟨σ', H', I.unwish, q⟩
  | cont => obtain ⟨σ', H', I, q⟩ := h; exact ⟨σ', H', I.unwish, q⟩
  | ret u => obtain ⟨v, σ', H', I, r, q⟩ := h; exact ⟨v, σ', H', I.unwish, r, q⟩
theorem PSs.nox {st : List Stmt} {t : TS} (h : PSs X.nox st t) : PSs X st t := fun pins s σ H D I hw =>
  wpAny_mono (h pins s σ H D (I.wish _) hw) (fun _ _ q => q.unwish) fun _ _ z => False.elim z
end

/-! ### blocks and small statements -/
section
variable {X : Cx} {st : Stmt} {rest : List Stmt} {t u : TS} {e : Expr} {te : TE} {pos : Pos}
def tNext : TS := fun D σ H => D.nx σ H
def tSeq (t u : TS) : TS := fun D σ H => t { D with nx := u D } σ H
theorem pss_nil : PSs X [] tNext := fun _ _ σ H _ I h => wpAny_execs_nil ⟨σ, H, I, h⟩
theorem pss_cons (h1 : PS X st t) (h2 : PSs X rest u) : PSs X (st :: rest) (tSeq t u) := by
  intro pins s σ H D I h
  refine wpAny_execs_cons (thn (h1 pins s σ H { D with nx := u D } I h) fun f s1 q => ?_)
  cases f with
  | next =>
    obtain ⟨σ', H', I', q⟩ := q
    exact h2 pins s1 σ' H' D I' q
  | ret v => exact q
  | brk => exact q
  | cont => exact q
theorem pss_one (h1 : PS X st t) : PSs X [st] t := by
  intro pins s σ H D I h
  refine wpAny_execs_cons (thn (h1 pins s σ H D I h) fun f s1 q => ?_)
  cases f with
  | next => exact wpAny_execs_nil q
  | ret v => exact q
  | brk => exact q
  | cont => exact q
/-- in a def's body nothing is shown -/
theorem Inv.quiet {pins : List (Addr × Obj)} {σ : St} {H : Hp} {s : Shared} (I : Inv X pins σ H s) : interactive X.env = false := by simp [interactive, I.ok.kind]
/-- an expression whose value is dropped -/
def tDrop (te : TE) : TS := fun D σ H => te σ H fun _ H1 => D.nx σ H1
theorem ps_expr (he : PE X e te) (hs : swapsWith e none pos.line X.env = pure false := by rfl) : PS X (.Expr e pos) (tDrop te) := by
  intro pins s σ H D I h
  exact wpAny_Expr_any (thn (he pins s σ H _ I h) fun v s1 ⟨x, H1, I1, r1, q1⟩ => ⟨σ, H1, I1, q1⟩) I.quiet hs
def tRet (te : TE) : TS := fun D σ H => te σ H D.rt
theorem ps_ret (he : PE X e te) : PS X (.Return (some e) pos) (tRet te) := by
  intro pins s σ H D I h
  exact wpAny_Return_some (thn (he pins s σ H _ I h) fun v s1 ⟨x, H1, I1, r1, q1⟩ => ⟨x, σ, H1, I1, r1, q1⟩)
def tIfS (c : TT) (t u : TS) : TS := fun D σ H => c σ H fun b H1 => if b = true then t D σ H1 else u D σ H1
theorem ps_if {c : Expr} {a b : List Stmt} {tc : TT} (hc : PT X c tc) (ha : PSs X a t) (hb : PSs X b u) : PS X (.If c a b pos) (tIfS tc t u) := by
  intro pins s σ H D I h
  refine wpAny_If (thn (hc pins s σ H _ I h) fun d s1 ⟨H1, I1, q1⟩ => ?_)
  cases d with
  | true => exact ha pins s1 σ H1 D I1 q1
  | false => exact hb pins s1 σ H1 D I1 q1
/-- code that the proof never comes to -/
def tNever : TS := fun _ _ _ => False
theorem ps_never : PS X st tNever := fun _ _ _ _ _ _ h => h.elim
end

/-! ### targets -/
abbrev TG := V → St → Hp → (St → Hp → Prop) → Prop
abbrev TGs := List V → St → Hp → (St → Hp → Prop) → Prop
def PG (X : Cx) (target : Expr) (t : TG) : Prop :=
  ∀ (pins : List (Addr × Obj)) (s : Shared) (σ : St) (H : Hp) (v : V) (u : Value) (Q : St → Hp → Prop), Inv X pins σ H s → RelV v u → t v σ H Q →
    wpAny (model X.prog X.w) X.A (assign target X.env u) (fun _ s' => ∃ σ' H', Inv X pins σ' H' s' ∧ Q σ' H') X.xe s
/-- several targets, one after another -/
def PGs (X : Cx) (ts : List Expr) (t : TGs) : Prop :=
  ∀ (pins : List (Addr × Obj)) (s : Shared) (σ : St) (H : Hp) (vs : List V) (us : List Value) (Q : St → Hp → Prop), Inv X pins σ H s → Vals vs us → t vs σ H Q →
    wpAny (model X.prog X.w) X.A (assignInOrder ((assignEach ts X.env).map (·.2)) us) (fun _ s' => ∃ σ' H', Inv X pins σ' H' s' ∧ Q σ' H') X.xe s
section
variable {X : Cx} {pos : Pos}
def gName (i : Nat) : TG := fun v σ H Q => Q (σ.set i (some v)) H
theorem pg_name {i : Nat} {x : Str} (hN : X.N.Nodup) (hi : X.N[i]? = some x) (hx : Loc X.env.scope x) (hf : X.fn x = true ∨ X.env.scope.names.lookup x = some .local := by first | exact .inl rfl | exact .inr rfl | assumption) : PG X (.Name x pos) (gName i) := by
  intro pins s σ H v u Q I r h
  exact wpAny_assign_Name (store_ok I hN hi hx r (fun s' I' => ⟨_, H, I', h⟩) hf)
def gNil : TGs := fun vs σ H Q => vs = [] ∧ Q σ H
def gCons (t : TG) (u : TGs) : TGs := fun vs σ H Q => ∃ v r, vs = v :: r ∧ t v σ H fun σ' H' => u r σ' H' Q
theorem pgs_nil : PGs X [] gNil := by
  intro pins s σ H vs us Q I r h
  obtain ⟨e, h⟩ := h
  subst e
  cases r
  exact assignInOrder_nil ⟨σ, H, I, h⟩
theorem pgs_cons {e : Expr} {es : List Expr} {t : TG} {u : TGs} (h1 : PG X e t) (h2 : PGs X es u)
    (hs : (assignEach (e :: es) X.env).map (·.2) = assign e X.env :: (assignEach es X.env).map (·.2) := by rfl) : PGs X (e :: es) (gCons t u) := by
  intro pins s σ H vs us Q I r h
  obtain ⟨v, vr, e1, h⟩ := h
  subst e1
  cases r with
  | cons r rr =>
    rw [hs]
    refine assignInOrder_cons (thn (h1 pins s σ H _ _ _ I r h) fun _ s1 ⟨σ1, H1, I1, q1⟩ => ?_)
    exact h2 pins s1 σ1 H1 _ _ Q I1 rr q1
/-- (a, b, ..) = a tuple of that length -/
def gTup (K : PySem.W.Frag) (n : Nat) (t : TGs) : TG := fun v σ H Q => ∃ a xs, v = .ref a ∧ SqT K H a xs ∧ xs.length = n ∧ t xs σ H Q
theorem pg_tup {es : List Expr} {k : Nat} {t : TGs} {n : Nat} (hc : X.calm = true) (h : PGs X es t)
    (hn : (assignEach es X.env).length = n := by rfl) (hst : (assignEach es X.env).findIdx? (·.1) = none := by rfl) : PG X (.Tuple es k pos) (gTup X.K n t) := by
  intro pins s σ H v u Q I r hw
  obtain ⟨a, xs, e1, hq, hl, hw⟩ := hw
  subst e1
  cases r
  obtain ⟨its, rv, ht, hz⟩ := I.tuple hq
  refine assign_Tuple_tuple (I.ok.hd hc) ht (by simp [hn, ← hl, rv.length]) hst fun h' hx => ?_
  have I1 : Inv X pins σ H { s with heap := h' } := I.kept (t' := s.toks) fun b o e => hx b o (Nat.ne_of_lt (Heap.lt_size e)) e
  exact h pins _ σ H xs _ Q I1 (by simpa using rv) hw
/-- target = value -/
def tAsg (te : TE) (g : TG) : TS := fun D σ H => te σ H fun x H1 => g x σ H1 D.nx
/-- name = value -/
theorem ps_set {i : Nat} {x : Str} {e : Expr} {te : TE} {pos' : Pos} (hN : X.N.Nodup) (hi : X.N[i]? = some x) (hx : Loc X.env.scope x) (he : PE X e te) (hs : swapsWith e (some (.Name x pos')) pos.line X.env = pure false := by rfl) (hf : X.fn x = true ∨ X.env.scope.names.lookup x = some .local := by first | exact .inl rfl | exact .inr rfl | assumption) :
    PS X (.Assign [.Name x pos'] e pos) (tAsg te (gName i)) := by
  intro pins s σ H D I h
  refine wpAny_Assign_Name (thn (he pins s σ H _ I h) fun v s1 ⟨y, H1, I1, r1, q1⟩ => ?_) hs
  exact store_ok I1 hN hi hx r1 (fun s2 I2 => ⟨_, H1, I2, q1⟩) hf
end

/-! ### while -/
section
variable {X : Cx} {pos : Pos}
/-- the invariant W with its measure -/
def tWhile (c : TT) (tb : TS) : TS := fun D σ H => ∃ W : Nat → St → Hp → Prop, (∃ m, W m σ H) ∧ ∀ m σ H, W m σ H →
  c σ H fun b H1 => if b = true then ∃ N : St → Hp → Prop, (∀ σ' H', N σ' H' → ∃ m', m' < m ∧ W m' σ' H') ∧ tb { D with nx := N, ct := N, bk := D.nx } σ H1 else D.nx σ H1
theorem ps_while {c : Expr} {body : List Stmt} {tc : TT} {tb : TS} (hp : PassesOwn (model X.prog X.w) X.A X.env X.xe) (hc : PT X c tc) (hb : PSs X body tb) : PS X (.While c body [] pos) (tWhile tc tb) := by
  intro pins s σ H D I h
  obtain ⟨W, ⟨m0, w0⟩, turn⟩ := h
  refine wpAny_While (codeAny_whileLoop (fun n s' => ∃ σ' H', Inv X pins σ' H' s' ∧ W n σ' H') ?_ m0 ⟨σ, H, I, w0⟩)
  rintro n s1 ⟨σ1, H1, I1, w1⟩
  refine wpAny_passesOwn hp (thn (hc pins s1 σ1 H1 _ I1 (turn n σ1 H1 w1)) fun b s2 ⟨H2, I2, q2⟩ => ?_)
  cases b with
  | true =>
    obtain ⟨N, hN, q2⟩ := q2
    rw [if_pos rfl]
    refine wpAny_passesOwn hp (thn (hb pins s2 σ1 H2 _ I2 q2) fun f s3 q3 => ?_)
    cases f with
    | next =>
      obtain ⟨σ3, H3, I3, n3⟩ := q3
      obtain ⟨m', hm, w3⟩ := hN σ3 H3 n3
      exact ⟨m', hm, σ3, H3, I3, w3⟩
    | cont =>
      obtain ⟨σ3, H3, I3, n3⟩ := q3
      obtain ⟨m', hm, w3⟩ := hN σ3 H3 n3
      exact ⟨m', hm, σ3, H3, I3, w3⟩
    | brk => exact q3
    | ret v => exact q3
  | false =>
    rw [if_neg Bool.false_ne_true]
    exact wpAny_execs_nil ⟨σ1, H2, I2, q2⟩
end

/-! ### what a loop or a comprehension walks -/
/-- at turn i: it yields x (the heap may grow), or it stops -/
structure It where
  go : Nat → Hp → Prop
  yld : Nat → Hp → V → Hp → Prop
  stop : Nat → Hp → Prop
/-- the iterator's own objects may turn: they are not the frame's, not pinned, younger than the entry (or a comprehension's own) -/
def FpOk (X : Cx) (pins : List (Addr × Obj)) (H : Hp) (b : Addr) : Prop :=
  H b = none ∧ b ≠ X.env.locals ∧ b ∉ X.fs ∧ (b ∈ X.ex ∨ X.s₀.heap.objs.size ≤ b) ∧ (∀ x c, X.env.cells.lookup x = some c → c ≠ b) ∧ ∀ p ∈ X.pn ++ pins, p.1 ≠ b
theorem Inv.fpOk {X : Cx} {pins : List (Addr × Obj)} {σ : St} {H H' : Hp} {s : Shared} {b : Addr} (I : Inv X pins σ H s) (hb : s.heap.objs.size ≤ b) (hn : H' b = none) : FpOk X pins H' b := by
  refine ⟨hn, Nat.ne_of_gt (Nat.lt_of_lt_of_le I.lt hb), I.nofs hb, .inr (Nat.le_trans I.sz hb), fun x c e z => ?_, fun p hp z => ?_⟩
  · obtain ⟨v, q⟩ := I.cell x c e
    exact absurd (Nat.lt_of_lt_of_le q.lt (by rw [z]; exact hb)) (Nat.lt_irrefl _)
  · exact absurd (Nat.lt_of_lt_of_le (Heap.lt_size (I.pin p hp).1) (by rw [z]; exact hb)) (Nat.lt_irrefl _)
structure Turn (P : Program) (w : World) (K : PySem.W.Frag) (tg : Expr) (J : It) (fp : List Addr) (it : Addr) (tn : Nat → Heap → Prop) : Prop where
  mem : it ∈ fp
  obj : ∀ i h, tn i h → ∀ b ∈ fp, ∃ o, h.get? b = some o ∧ ∀ v, o.data ≠ .cell v
  keep : ∀ i h h', tn i h → (∀ b ∈ fp, ∀ o, h.get? b = some o → h'.get? b = some o) → tn i h'
  item : ∀ (X : Cx), X.prog = P → X.w = w → X.K = K → X.calm = true → ∀ (i : Nat) (pins : List (Addr × Obj)) (s : Shared) (σ : St) (H : Hp) (E : Value → Shared → Prop), Inv X pins σ H s → (∀ b ∈ fp, FpOk X pins H b) → tn i s.heap → J.go i H →
    wpAny (model P w) X.A (pyNext (.ref it)) (fun r s1 => ∃ u, r = some u ∧
      wpAny (model P w) X.A (letOwnedTupleGo tg (.ref it) u) (fun _ s2 => ∃ x H', Inv X pins σ H' s2 ∧ RelV x u ∧ J.yld i H x H' ∧ tn (i + 1) s2.heap ∧ ∀ b ∈ fp, H' b = none) E s1) E s
  done : ∀ (X : Cx), X.prog = P → X.w = w → X.K = K → X.calm = true → ∀ (i : Nat) (pins : List (Addr × Obj)) (s : Shared) (σ : St) (H : Hp) (E : Value → Shared → Prop), Inv X pins σ H s → (∀ b ∈ fp, FpOk X pins H b) → tn i s.heap → J.stop i H →
    wpAny (model P w) X.A (pyNext (.ref it)) (fun r s1 => r = none ∧ Inv X pins σ H s1) E s
  self : ∀ (A : Around) (i : Nat) (s : Shared) (Q : Value → Shared → Prop) (E : Value → Shared → Prop), tn i s.heap → Q (.ref it) s → wpAny (model P w) A (pyIter (.ref it)) Q E s
abbrev TI := St → Hp → (It → Hp → Prop) → Prop
/-- an iterator has come -/
def PIE (X : Cx) (pins : List (Addr × Obj)) (σ : St) (tg : Expr) (R : It → Hp → Prop) (itv : Value) (s2 : Shared) : Prop :=
  ∃ (it : Addr) (fp : List Addr) (tn : Nat → Heap → Prop) (J : It) (H' : Hp), itv = .ref it ∧ Inv X pins σ H' s2 ∧ Turn X.prog X.w X.K tg J fp it tn ∧ tn 0 s2.heap ∧ (∀ b ∈ fp, FpOk X pins H' b) ∧ R J H'
def PI (X : Cx) (tg iter : Expr) (wi : TI) : Prop :=
  ∀ (pins : List (Addr × Obj)) (s : Shared) (σ : St) (H : Hp) (R : It → Hp → Prop), Inv X pins σ H s → wi σ H R →
    wpAny (model X.prog X.w) X.A (eval iter X.env) (fun v s1 => wpAny (model X.prog X.w) X.A (pyIter v) (PIE X pins σ tg R) X.xe s1) X.xe s

/-- the step ahead of the store is nothing for an iterator that keeps no tuple -/
theorem go_of {M : Model} {A : Around} {E : Value → Shared → Prop} {s : Shared} {tg : Expr} {it : Addr} {u : Value} {o : Obj} {n : String} {vs : Array Value} {Q : Unit → Shared → Prop} (ho : s.heap.get? it = some o) (hc : o.cls = .type n) (hd : o.data = .fields vs)
    (hn : ["enumerate", "zip", "dict_itemiterator", "dict_reverseitemiterator", "odict_iterator", "itertools.zip_longest", "itertools.pairwise"].contains n = false) (hQ : Q () s) : wpAny M A (letOwnedTupleGo tg (.ref it) u) Q E s := by
  unfold letOwnedTupleGo
  cases tg <;> first
    | exact wpAny_pure hQ
    | (cases u <;> first
        | exact wpAny_pure hQ
        | (refine wpAny_bind (wpAny_load ho ?_)
           rw [hc, hd]
           show wpAny M A (if (["enumerate", "zip", "dict_itemiterator", "dict_reverseitemiterator", "odict_iterator", "itertools.zip_longest", "itertools.pairwise"].contains n && vs[0]? == some (rawInt _)) = true then _ else _) Q E s
           rw [if_neg (by intro h; rw [hn, Bool.false_and] at h; cases h)]
           exact wpAny_pure hQ))

/-- the list at a, as it stands at each turn (a loop may append to it) -/
def Itl (K : PySem.W.Frag) (a : Addr) : It :=
  ⟨fun i H => ∃ xs x, SqL K H a xs ∧ xs[i]? = some x, fun i H x H' => H' = H ∧ ∀ xs, SqL K H a xs → xs[i]? = some x, fun i H => ∃ xs, SqL K H a xs ∧ xs.length ≤ i⟩
def Itt (K : PySem.W.Frag) (a : Addr) : It :=
  ⟨fun i H => ∃ xs x, SqT K H a xs ∧ xs[i]? = some x, fun i H x H' => H' = H ∧ ∀ xs, SqT K H a xs → xs[i]? = some x, fun i H => ∃ xs, SqT K H a xs ∧ xs.length ≤ i⟩
/-- lo, lo + 1, .. (n of them) -/
def Itr (lo : Int) (n : Nat) : It := ⟨fun i _ => i < n, fun i H x H' => H' = H ∧ x = .int (lo + i), fun i _ => n ≤ i⟩
theorem turn_list {P : Program} {w : World} {K : PySem.W.Frag} {tg : Expr} (a it : Addr) : Turn P w K tg (Itl K a) [it] it (fun i h => h.IsListIter it a i) where
  mem := by simp
  obj := fun i h st b hb => by
    have e : b = it := by simpa using hb
    subst e
    obtain ⟨o, e, c, d⟩ := st
    exact ⟨o, e, fun v z => by rw [d] at z; cases z⟩
  keep := fun i h h' st k => st.at fun o e => k it (by simp) o e
  item := by
    intro X hP hw hK hc i pins s σ H E I hf st hg
    subst hP hw hK
    obtain ⟨xs, x, hq, hx⟩ := hg
    obtain ⟨its, rv, p, hz⟩ := I.list hq
    obtain ⟨u, hu, ru⟩ := rv.get hx
    obtain ⟨f0, f1, f2, f3, f4, f5⟩ := hf it (by simp)
    refine wpAny_pyNext_list_item st p.isList (x := u) (by simpa using hu) fun h' st' sb => ?_
    have I1 : Inv X pins σ H { s with heap := h' } := I.turned (t' := s.toks) (fun b o hb e => (sb.2 b hb).trans e) f0 f1 f3 f4 f5
    obtain ⟨o, e, c, d⟩ := id st'
    exact ⟨u, rfl, go_of (s := { s with heap := h' }) e c d (by decide) ⟨x, H, I1, ru, ⟨rfl, fun ys hy => by rw [I.list_inj hy hq]; exact hx⟩, st', fun b hb => (hf b hb).1⟩⟩
  done := by
    intro X hP hw hK hc i pins s σ H E I hf st hg
    subst hP hw hK
    obtain ⟨xs, hq, hx⟩ := hg
    obtain ⟨its, rv, p, hz⟩ := I.list hq
    obtain ⟨f0, f1, f2, f3, f4, f5⟩ := hf it (by simp)
    have hl := rv.length
    exact wpAny_pyNext_list_end (I.ok.hd hc) st p.isList (by simp; omega) fun h' eb => ⟨rfl, I.turned (t' := s.toks) (fun b o hb e => eb b o hb e) f0 f1 f3 f4 f5⟩
  self := fun _ _ _ _ _ st h => wpAny_pyIter_listiter st h
theorem turn_tuple {P : Program} {w : World} {K : PySem.W.Frag} {tg : Expr} (a it : Addr) : Turn P w K tg (Itt K a) [it] it (fun i h => h.IsTupleIter it a i) where
  mem := by simp
  obj := fun i h st b hb => by
    have e : b = it := by simpa using hb
    subst e
    obtain ⟨o, e, c, d⟩ := st
    exact ⟨o, e, fun v z => by rw [d] at z; cases z⟩
  keep := fun i h h' st k => st.at fun o e => k it (by simp) o e
  item := by
    intro X hP hw hK hc i pins s σ H E I hf st hg
    subst hP hw hK
    obtain ⟨xs, x, hq, hx⟩ := hg
    obtain ⟨its, rv, p, hz⟩ := I.tuple hq
    obtain ⟨u, hu, ru⟩ := rv.get hx
    obtain ⟨f0, f1, f2, f3, f4, f5⟩ := hf it (by simp)
    refine wpAny_pyNext_tuple_item st (show s.heap.IsTuple a its.toArray from p) (x := u) (by simpa using hu) fun h' st' sb => ?_
    have I1 : Inv X pins σ H { s with heap := h' } := I.turned (t' := s.toks) (fun b o hb e => (sb.2 b hb).trans e) f0 f1 f3 f4 f5
    obtain ⟨o, e, c, d⟩ := id st'
    exact ⟨u, rfl, go_of (s := { s with heap := h' }) e c d (by decide) ⟨x, H, I1, ru, ⟨rfl, fun ys hy => by rw [I.tuple_inj hy hq]; exact hx⟩, st', fun b hb => (hf b hb).1⟩⟩
  done := by
    intro X hP hw hK hc i pins s σ H E I hf st hg
    subst hP hw hK
    obtain ⟨xs, hq, hx⟩ := hg
    obtain ⟨its, rv, p, hz⟩ := I.tuple hq
    obtain ⟨f0, f1, f2, f3, f4, f5⟩ := hf it (by simp)
    have hl := rv.length
    exact wpAny_pyNext_tuple_end (I.ok.hd hc) st (show s.heap.IsTuple a its.toArray from p) (by simp; omega) fun h' eb => ⟨rfl, I.turned (t' := s.toks) (fun b o hb e => eb b o hb e) f0 f1 f3 f4 f5⟩
  self := fun _ _ _ _ _ st h => wpAny_pyIter_tupleiter st h
theorem turn_range {P : Program} {w : World} {K : PySem.W.Frag} {tg : Expr} (it : Addr) (lo : Int) (n : Nat) : Turn P w K tg (Itr lo n) [it] it (fun i h => IsRangeIter h it (lo + (i : Nat) * 1) ((n : Int) - (i : Nat)) 1) where
  mem := by simp
  obj := fun i h st b hb => by
    have e : b = it := by simpa using hb
    subst e
    exact ⟨_, st, fun v z => by
      have z' : Data.fields _ = Data.cell v := z
      cases z'⟩
  keep := fun i h h' st k => k it (by simp) _ st
  item := by
    intro X hP hw hK hc i pins s σ H E I hf st hg
    subst hP hw hK
    obtain ⟨f0, f1, f2, f3, f4, f5⟩ := hf it (by simp)
    have W := Walks.range (prog := X.prog) (w := X.w) (I.ok.hd hc) it lo 1 n
    refine W.item i s _ _ hg st fun v h' tk hv st' kk => ?_
    obtain ⟨t, rfl⟩ := hv
    have I1 : Inv X pins σ H { s with heap := h', toks := tk } := I.turned (fun b o hb e => kk b o (by simpa using hb) e) f0 f1 f3 f4 f5
    refine ⟨_, rfl, go_of (s := { s with heap := h', toks := tk }) (n := "range_iterator") st' rfl rfl (by decide) ⟨.int (lo + i), H, I1, ⟨t, ?_⟩, ⟨rfl, rfl⟩, st', fun b hb => (hf b hb).1⟩⟩
    rw [Int.mul_one]
  done := by
    intro X hP hw hK hc i pins s σ H E I hf st hg
    subst hP hw hK
    obtain ⟨f0, f1, f2, f3, f4, f5⟩ := hf it (by simp)
    exact wpAny_pyNext_range_end (I.ok.hd hc) st (by have : n ≤ i := hg; omega) fun h' eb => ⟨rfl, I.turned (t' := s.toks) (fun b o hb e => eb b o hb e) f0 f1 f3 f4 f5⟩
  self := fun _ _ _ _ _ st h => wpAny_pyIter_rangeiter st h
end L2

namespace L2
open PySem PySem.Spec PyProof.Rows
section
variable {X : Cx} {tg : Expr}
def iList (K : PySem.W.Frag) (tl : TE) : TI := fun σ H R => tl σ H fun x H1 => ∃ a, x = .ref a ∧ (∃ xs, SqL K H1 a xs) ∧ R (Itl K a) H1
def iTup (K : PySem.W.Frag) (tl : TE) : TI := fun σ H R => tl σ H fun x H1 => ∃ a, x = .ref a ∧ (∃ xs, SqT K H1 a xs) ∧ R (Itt K a) H1
theorem pi_list {l : Expr} {tl : TE} (hl : PE X l tl) : PI X tg l (iList X.K tl) := by
  intro pins s σ H R I h
  refine thn (hl pins s σ H _ I h) fun v s1 ⟨x, H1, I1, r1, q1⟩ => ?_
  obtain ⟨a, e, ⟨xs, hq⟩, q⟩ := q1
  subst e
  cases r1
  obtain ⟨its, rv, p, hz⟩ := I1.list hq
  refine wpAny_pyIter_list p.isList ?_
  refine ⟨s1.heap.objs.size, [s1.heap.objs.size], _, _, H1, rfl, I1.kept (t' := s1.toks) fun b o e => Heap.get?_push_of_some _ e, turn_list a _, ⟨_, Heap.get?_push_size _ rfl, rfl, rfl⟩, fun b hb => ?_, q⟩
  have e : b = s1.heap.objs.size := by simpa using hb
  subst e
  exact I1.fpOk (Nat.le_refl _) (I1.hok.fresh (Nat.le_refl _))
theorem pi_tup {l : Expr} {tl : TE} (hl : PE X l tl) : PI X tg l (iTup X.K tl) := by
  intro pins s σ H R I h
  refine thn (hl pins s σ H _ I h) fun v s1 ⟨x, H1, I1, r1, q1⟩ => ?_
  obtain ⟨a, e, ⟨xs, hq⟩, q⟩ := q1
  subst e
  cases r1
  obtain ⟨its, rv, p, hz⟩ := I1.tuple hq
  refine wpAny_pyIter_tuple (show s1.heap.IsTuple a its.toArray from p) ?_
  refine ⟨s1.heap.objs.size, [s1.heap.objs.size], _, _, H1, rfl, I1.kept (t' := s1.toks) fun b o e => Heap.get?_push_of_some _ e, turn_tuple a _, ⟨_, Heap.get?_push_size _ rfl, rfl, rfl⟩, fun b hb => ?_, q⟩
  have e : b = s1.heap.objs.size := by simpa using hb
  subst e
  exact I1.fpOk (Nat.le_refl _) (I1.hok.fresh (Nat.le_refl _))
/-- a range object just made, walked -/
theorem range_it {pins : List (Addr × Obj)} {σ : St} {H : Hp} {s : Shared} {R : It → Hp → Prop} {E : Value → Shared → Prop} {lo hi : Int} {t u v : Tok} {tk : Nat} (I : Inv X pins σ H s) (h1 : -(2 ^ 62) ≤ lo) (h2 : lo < 2 ^ 62) (h3 : -(2 ^ 62) ≤ hi) (h4 : hi < 2 ^ 62)
    (q : R (Itr lo (hi - lo).toNat) H) : wpAny (model X.prog X.w) X.A (pyIter (.ref s.heap.objs.size)) (PIE X pins σ tg R) E { s with heap := s.heap.push { cls := .type "range", data := .fields #[.int lo t, .int hi u, .int 1 v] }, toks := tk } := by
  refine wpAny_pyIter_range (IsRange.new ..) (small_one h1 h2 h3 h4) ?_
  have I1 : Inv X pins σ H { s with heap := s.heap.push { cls := .type "range", data := .fields #[.int lo t, .int hi u, .int 1 v] }, toks := tk } := I.kept fun b o e => Heap.get?_push_of_some _ e
  refine ⟨(s.heap.push { cls := .type "range", data := .fields #[.int lo t, .int hi u, .int 1 v] }).objs.size, [(s.heap.push { cls := .type "range", data := .fields #[.int lo t, .int hi u, .int 1 v] }).objs.size], _, _, H, rfl,
    I1.kept (t' := tk) fun b o e => Heap.get?_push_of_some _ e, turn_range _ lo (hi - lo).toNat, ?_, fun b hb => ?_, q⟩
  · have e1 : lo + ((0 : Nat) : Int) * 1 = lo := by simp
    have e2 : (((hi - lo).toNat : Nat) : Int) - ((0 : Nat) : Int) = Builtin.Range.rangeSize lo hi 1 := by rw [rangeSize_one]; split <;> omega
    show IsRangeIter _ _ (lo + ((0 : Nat) : Int) * 1) ((((hi - lo).toNat : Nat) : Int) - ((0 : Nat) : Int)) 1
    rw [e1, e2]
    exact Heap.get?_push_size _ rfl
  · have e : b = (s.heap.push { cls := .type "range", data := .fields #[.int lo t, .int hi u, .int 1 v] }).objs.size := by simpa using hb
    subst e
    exact I1.fpOk (Nat.le_refl _) (I1.hok.fresh (Nat.le_refl _))
def iRng1 (ta : TA) : TI := fun σ H R => ta σ H fun vs H1 => ∃ j : Int, vs = [.int j] ∧ -(2 ^ 62) ≤ j ∧ j < 2 ^ 62 ∧ R (Itr 0 j.toNat) H1
theorem pi_range1 {a : Expr} {ta : TA} {p pos : Pos} (hg : Gl X "range") (hm : X.mg "range" = none) (ha : PA X [a] ta) (hs : starEach [a] X.env = [(false, eval a X.env)] := by rfl) : PI X tg (.Call (.Name "range" p) [a] [] pos) (iRng1 ta) := by
  intro pins s σ H R I h
  refine Call_ (ld_blt I hg hm boot_range (PyProof.Rows.callWith_type1 (thn (ha pos pins s σ H _ I h) fun us s1 ⟨vs, H1, I1, r1, q1⟩ => ?_) hs rfl))
  obtain ⟨j, e, q1, q2, q⟩ := q1
  subst e
  cases r1 with
  | cons r rr =>
    cases rr
    obtain ⟨t, rfl⟩ := r
    exact call_range_1 (range_it I1 (by omega) (by omega) q1 q2 (by simpa using q))

/-! ### for -/
/-- W: the invariant by the turn and a measure; N: what the body is to reach -/
def tFor (wi : TI) (g : TG) (tb : TS) : TS := fun D σ H => wi σ H fun J H1 => ∃ W : Nat → Nat → St → Hp → Prop, (∃ m, W 0 m σ H1) ∧ ∀ i m σ H, W i m σ H →
  (J.stop i H ∧ D.nx σ H) ∨ (J.go i H ∧ ∃ N : St → Hp → Prop, (∀ σ' H', N σ' H' → ∃ m', m' < m ∧ W (i + 1) m' σ' H') ∧ ∀ x H', J.yld i H x H' → g x σ H' fun σ2 H2 => tb { D with nx := N, ct := N, bk := D.nx } σ2 H2)
/-- the records at fp as they stand -/
def pinsAt (fp : List Addr) (h : Heap) : List (Addr × Obj) := fp.filterMap fun b => (h.get? b).map fun o => (b, o)
theorem mem_pinsAt {fp : List Addr} {h : Heap} {b : Addr} {o : Obj} (hb : b ∈ fp) (e : h.get? b = some o) : (b, o) ∈ pinsAt fp h := List.mem_filterMap.mpr ⟨b, hb, by rw [e]; rfl⟩
theorem of_pinsAt {fp : List Addr} {h : Heap} {p : Addr × Obj} (hp : p ∈ pinsAt fp h) : p.1 ∈ fp ∧ h.get? p.1 = some p.2 := by
  obtain ⟨b, hb, e⟩ := List.mem_filterMap.mp hp
  cases q : h.get? b with
  | none => rw [q] at e; cases e
  | some o =>
    rw [q] at e
    have e' : (b, o) = p := Option.some.inj e
    subst e'
    exact ⟨hb, q⟩
theorem Inv.pinned {pins : List (Addr × Obj)} {σ : St} {H : Hp} {s : Shared} {fp : List Addr} (I : Inv X pins σ H s) (hf : ∀ b ∈ fp, FpOk X pins H b) (ho : ∀ b ∈ fp, ∃ o, s.heap.get? b = some o ∧ ∀ v, o.data ≠ .cell v) : Inv X (pins ++ pinsAt fp s.heap) σ H s :=
  I.pins_of fun p hp => (List.mem_append.mp hp).elim (fun z => I.pin p (List.mem_append_right _ z)) fun z => by
    obtain ⟨hb, e⟩ := of_pinsAt z
    obtain ⟨f0, f1, f2, _⟩ := hf p.1 hb
    obtain ⟨o, e', d⟩ := ho p.1 hb
    rw [e] at e'; cases e'
    exact ⟨e, f0, f1, f2, d⟩
theorem Inv.unpinned {pins pl : List (Addr × Obj)} {σ : St} {H : Hp} {s : Shared} (I : Inv X (pins ++ pl) σ H s) : Inv X pins σ H s := I.pins_of fun p hp => I.pin p (List.mem_append_right _ (List.mem_append_left _ hp))
theorem ps_for {iter : Expr} {body : List Stmt} {wi : TI} {g : TG} {tb : TS} {pos : Pos} (hp : PassesOwn (model X.prog X.w) X.A X.env X.xe) (hc : X.calm = true) (hi : PI X tg iter wi) (hg : PG X tg g) (hb : PSs X body tb)
    (hs : ∀ x, foldedSetIterable iter X.env x = pure x := by intro _; rfl) : PS X (.For tg iter body [] pos) (tFor wi g tb) := by
  intro pins s σ H D I h
  refine wpAny_For (thn (hi pins s σ H _ I h) fun v s1 h1 => thn h1 fun itv s2 h2 => ?_) hs
  obtain ⟨it, fp, tn, J, H2, e, I2, T, st2, f2, W, ⟨m0, w0⟩, turn⟩ := h2
  subst e
  -- what stays true of the iterator's objects through the loop
  have stat : ∀ {H' : Hp}, (∀ b ∈ fp, H' b = none) → ∀ b ∈ fp, FpOk X pins H' b := fun hn b hb => ⟨hn b hb, (f2 b hb).2⟩
  refine codeAny_forLoop_any (fun n s' => ∃ i σ' H', Inv X pins σ' H' s' ∧ tn i s'.heap ∧ (∀ b ∈ fp, H' b = none) ∧ W i n σ' H') ?_ m0 ⟨0, σ, H2, I2, st2, fun b hb => (f2 b hb).1, w0⟩
  rintro n s3 ⟨i, σ3, H3, I3, st3, fr3, w3⟩
  rcases turn i n σ3 H3 w3 with ⟨stop, qn⟩ | ⟨go, N, hN, step⟩
  · refine wpAny_passesOwn hp (thn (T.done X rfl rfl rfl hc i pins s3 σ3 H3 X.xe I3 (stat fr3) st3 stop) fun r s4 ⟨hr, I4⟩ => ?_)
    subst hr
    exact wpAny_execs_nil ⟨σ3, H3, I4, qn⟩
  · refine wpAny_passesOwn hp (thn (T.item X rfl rfl rfl hc i pins s3 σ3 H3 X.xe I3 (stat fr3) st3 go) fun r s4 ⟨u, hr, h4⟩ => ?_)
    subst hr
    refine wpAny_passesOwn hp (thn h4 fun _ s5 ⟨x, H5, I5, r5, y5, st5, fr5⟩ => ?_)
    have I5' := I5.pinned (stat fr5) (T.obj _ _ st5)
    refine wpAny_passesOwn hp (thn (hg _ s5 σ3 H5 x u _ I5' r5 (step x H5 y5)) fun _ s6 ⟨σ6, H6, I6, q6⟩ => ?_)
    refine wpAny_passesOwn hp (thn (hb _ s6 σ6 H6 _ I6 q6) fun f s7 q7 => ?_)
    have again : ∀ {σ7 : St} {H7 : Hp}, Inv X (pins ++ pinsAt fp s5.heap) σ7 H7 s7 → N σ7 H7 → ∃ m, m < n ∧ ∃ i σ' H', Inv X pins σ' H' s7 ∧ tn i s7.heap ∧ (∀ b ∈ fp, H' b = none) ∧ W i m σ' H' := fun {σ7 H7} I7 n7 => by
      obtain ⟨m', hm, w7⟩ := hN σ7 H7 n7
      refine ⟨m', hm, i + 1, σ7, H7, I7.unpinned, T.keep _ _ _ st5 fun b hb o e => (I7.pin (b, o) (List.mem_append_right _ (List.mem_append_right _ (mem_pinsAt hb e)))).1, fun b hb => ?_, w7⟩
      obtain ⟨o, e, d⟩ := T.obj _ _ st5 b hb
      exact (I7.pin (b, o) (List.mem_append_right _ (List.mem_append_right _ (mem_pinsAt hb e)))).2.1
    cases f with
    | next => obtain ⟨σ7, H7, I7, n7⟩ := q7; exact again I7 n7
    | cont => obtain ⟨σ7, H7, I7, n7⟩ := q7; exact again I7 n7
    | brk => obtain ⟨σ7, H7, I7, q7⟩ := q7; exact ⟨σ7, H7, I7.unpinned, q7⟩
    | ret v => obtain ⟨x7, σ7, H7, I7, r7, q7⟩ := q7; exact ⟨x7, σ7, H7, I7.unpinned, r7, q7⟩
end

/-! ### the forms one uses -/
/-- over a list that the body leaves as it is -/
theorem for_list {K : PySem.W.Frag} {a : Addr} {xs : List V} {g : TG} {tb : TS} {D : Ends} {σ : St} {H : Hp} (Pv : Nat → St → Hp → Prop) (h0 : Pv 0 σ H) (hl : ∀ i σ H, i ≤ xs.length → Pv i σ H → SqL K H a xs)
    (hs : ∀ i x σ H, xs[i]? = some x → Pv i σ H → g x σ H fun σ2 H2 => tb { D with nx := Pv (i + 1), ct := Pv (i + 1), bk := D.nx } σ2 H2) (hd : ∀ σ H, Pv xs.length σ H → D.nx σ H) :
    ∃ W : Nat → Nat → St → Hp → Prop, (∃ m, W 0 m σ H) ∧ ∀ i m σ H, W i m σ H →
      ((Itl K a).stop i H ∧ D.nx σ H) ∨ ((Itl K a).go i H ∧ ∃ N : St → Hp → Prop, (∀ σ' H', N σ' H' → ∃ m', m' < m ∧ W (i + 1) m' σ' H') ∧ ∀ x H', (Itl K a).yld i H x H' → g x σ H' fun σ2 H2 => tb { D with nx := N, ct := N, bk := D.nx } σ2 H2) := by
  refine ⟨fun i m σ H => m = xs.length - i ∧ i ≤ xs.length ∧ Pv i σ H, ⟨xs.length, by simp, Nat.zero_le _, h0⟩, ?_⟩
  rintro i m σ H ⟨rfl, hi, p⟩
  have q := hl i σ H hi p
  by_cases hlt : i < xs.length
  · refine .inr ⟨⟨xs, xs[i], q, by simp [hlt]⟩, Pv (i + 1), fun σ' H' p' => ⟨xs.length - (i + 1), by omega, rfl, hlt, p'⟩, fun x H' y => ?_⟩
    obtain ⟨e, y⟩ := y
    subst e
    exact hs i x σ _ (y xs q) p
  · have e : i = xs.length := by omega
    subst e
    exact .inl ⟨⟨xs, q, Nat.le_refl _⟩, hd σ H p⟩
theorem for_tup {K : PySem.W.Frag} {a : Addr} {xs : List V} {g : TG} {tb : TS} {D : Ends} {σ : St} {H : Hp} (Pv : Nat → St → Hp → Prop) (h0 : Pv 0 σ H) (hl : ∀ i σ H, i ≤ xs.length → Pv i σ H → SqT K H a xs)
    (hs : ∀ i x σ H, xs[i]? = some x → Pv i σ H → g x σ H fun σ2 H2 => tb { D with nx := Pv (i + 1), ct := Pv (i + 1), bk := D.nx } σ2 H2) (hd : ∀ σ H, Pv xs.length σ H → D.nx σ H) :
    ∃ W : Nat → Nat → St → Hp → Prop, (∃ m, W 0 m σ H) ∧ ∀ i m σ H, W i m σ H →
      ((Itt K a).stop i H ∧ D.nx σ H) ∨ ((Itt K a).go i H ∧ ∃ N : St → Hp → Prop, (∀ σ' H', N σ' H' → ∃ m', m' < m ∧ W (i + 1) m' σ' H') ∧ ∀ x H', (Itt K a).yld i H x H' → g x σ H' fun σ2 H2 => tb { D with nx := N, ct := N, bk := D.nx } σ2 H2) := by
  refine ⟨fun i m σ H => m = xs.length - i ∧ i ≤ xs.length ∧ Pv i σ H, ⟨xs.length, by simp, Nat.zero_le _, h0⟩, ?_⟩
  rintro i m σ H ⟨rfl, hi, p⟩
  have q := hl i σ H hi p
  by_cases hlt : i < xs.length
  · refine .inr ⟨⟨xs, xs[i], q, by simp [hlt]⟩, Pv (i + 1), fun σ' H' p' => ⟨xs.length - (i + 1), by omega, rfl, hlt, p'⟩, fun x H' y => ?_⟩
    obtain ⟨e, y⟩ := y
    subst e
    exact hs i x σ _ (y xs q) p
  · have e : i = xs.length := by omega
    subst e
    exact .inl ⟨⟨xs, q, Nat.le_refl _⟩, hd σ H p⟩
theorem for_range {lo : Int} {n : Nat} {g : TG} {tb : TS} {D : Ends} {σ : St} {H : Hp} (Pv : Nat → St → Hp → Prop) (h0 : Pv 0 σ H)
    (hs : ∀ i σ H, i < n → Pv i σ H → g (.int (lo + i)) σ H fun σ2 H2 => tb { D with nx := Pv (i + 1), ct := Pv (i + 1), bk := D.nx } σ2 H2) (hd : ∀ σ H, Pv n σ H → D.nx σ H) :
    ∃ W : Nat → Nat → St → Hp → Prop, (∃ m, W 0 m σ H) ∧ ∀ i m σ H, W i m σ H →
      ((Itr lo n).stop i H ∧ D.nx σ H) ∨ ((Itr lo n).go i H ∧ ∃ N : St → Hp → Prop, (∀ σ' H', N σ' H' → ∃ m', m' < m ∧ W (i + 1) m' σ' H') ∧ ∀ x H', (Itr lo n).yld i H x H' → g x σ H' fun σ2 H2 => tb { D with nx := N, ct := N, bk := D.nx } σ2 H2) := by
  refine ⟨fun i m σ H => m = n - i ∧ i ≤ n ∧ Pv i σ H, ⟨n, by simp, Nat.zero_le _, h0⟩, ?_⟩
  rintro i m σ H ⟨rfl, hi, p⟩
  by_cases hlt : i < n
  · refine .inr ⟨hlt, Pv (i + 1), fun σ' H' p' => ⟨n - (i + 1), by omega, rfl, hlt, p'⟩, fun x H' y => ?_⟩
    obtain ⟨e, y⟩ := y
    subst e y
    exact hs i σ _ hlt p
  · have e : i = n := by omega
    subst e
    exact .inl ⟨Nat.le_refl _, hd σ H p⟩
/-- while, by a word and a measure of the state -/
theorem while_by {c : TT} {tb : TS} {D : Ends} {σ : St} {H : Hp} (Pv : St → Hp → Prop) (μ : St → Hp → Nat) (h0 : Pv σ H)
    (hs : ∀ σ H, Pv σ H → c σ H fun b H1 => if b = true then tb { D with nx := fun σ' H' => Pv σ' H' ∧ μ σ' H' < μ σ H, ct := fun σ' H' => Pv σ' H' ∧ μ σ' H' < μ σ H, bk := D.nx } σ H1 else D.nx σ H1)
    (mono : ∀ σ H Q Q', (∀ b H1, Q b H1 → Q' b H1) → c σ H Q → c σ H Q') : tWhile c tb D σ H := by
  refine ⟨fun m σ H => m = μ σ H ∧ Pv σ H, ⟨_, rfl, h0⟩, ?_⟩
  rintro m σ H ⟨rfl, p⟩
  refine mono σ H _ _ (fun b H1 q => ?_) (hs σ H p)
  cases b with
  | true => exact ⟨_, fun σ' H' ⟨p', l⟩ => ⟨_, l, rfl, p'⟩, q⟩
  | false => exact q
end L2

namespace L2
open PySem PySem.Spec PyProof.Rows

abbrev R2 := V → V → Hp → VK → Prop
/-- a two-place operation on values: f is binaryOp op, inplaceOp op or compareOp op -/
def OpR (X : Cx) (f : Value → Value → Sem Value) (r : R2) : Prop :=
  ∀ (pins : List (Addr × Obj)) (s : Shared) (σ : St) (H : Hp) (x y : V) (v u : Value) (Q : VK), Inv X pins σ H s → RelV x v → RelV y u → r x y H Q →
    wpAny (model X.prog X.w) X.A (f v u) (EP X pins σ Q) X.xe s
/-- a one-place operation -/
def UnR (X : Cx) (f : Value → Sem Value) (r : V → Hp → VK → Prop) : Prop :=
  ∀ (pins : List (Addr × Obj)) (s : Shared) (σ : St) (H : Hp) (x : V) (v : Value) (Q : VK), Inv X pins σ H s → RelV x v → r x H Q →
    wpAny (model X.prog X.w) X.A (f v) (EP X pins σ Q) X.xe s
/-- a call of a value that is known (a builtin, a type) with values -/
def CallR (X : Cx) (f : Value) (r : List V → Hp → VK → Prop) : Prop :=
  ∀ (pins : List (Addr × Obj)) (s : Shared) (σ : St) (H : Hp) (xs : List V) (us : List Value) (Q : VK), Inv X pins σ H s → Vals xs us → r xs H Q →
    wpAny (model X.prog X.w) X.A (call f us) (EP X pins σ Q) X.xe s

def tOp (r : R2) (ta tb : TE) : TE := fun σ H Q => ta σ H fun x H1 => tb σ H1 fun y H2 => r x y H2 Q
def tUn (r : V → Hp → VK → Prop) (ta : TE) : TE := fun σ H Q => ta σ H fun x H1 => r x H1 Q
/-- ints in, under C, and a value out -/
def rI (C : Int → Int → Prop) (g : Int → Int → V) : R2 := fun x y H Q => ∃ i j, x = .int i ∧ y = .int j ∧ C i j ∧ Q (g i j) H
def rI0 (g : Int → Int → V) : R2 := fun x y H Q => ∃ i j, x = .int i ∧ y = .int j ∧ Q (g i j) H
def rU (g : Int → V) : V → Hp → VK → Prop := fun x H Q => ∃ i, x = .int i ∧ Q (g i) H

section
variable {X : Cx} {a b c : Expr} {ta tb tc : TE} {pos : Pos}

theorem binT (ha : PE X a ta) (hb : PE X b tb) {pins : List (Addr × Obj)} {s : Shared} {σ : St} {H : Hp} {R : V → V → Hp → Prop} (I : Inv X pins σ H s)
    (h : ta σ H fun x H1 => tb σ H1 fun y H2 => R x y H2) {Q : Value → Shared → Prop} {f : Value → Value → Sem Value}
    (hf : ∀ v u s2 x y H2, Inv X pins σ H2 s2 → RelV x v → RelV y u → R x y H2 → wpAny (model X.prog X.w) X.A (f v u) Q X.xe s2) :
    wpAny (model X.prog X.w) X.A (eval a X.env) (fun v s₁ => wpAny (model X.prog X.w) X.A (eval b X.env) (fun u s₂ => wpAny (model X.prog X.w) X.A (f v u) Q X.xe s₂) X.xe s₁) X.xe s := by
  refine thn (ha pins s σ H _ I h) fun v s1 ⟨x, H1, I1, r1, q1⟩ => ?_
  refine thn (hb pins s1 σ H1 _ I1 q1) fun u s2 ⟨y, H2, I2, r2, q2⟩ => ?_
  exact hf v u s2 x y H2 I2 r1 r2 q2

theorem pe_op {op : Operator} {r : R2} (ho : OpR X (binaryOp op) r) (ha : PE X a ta) (hb : PE X b tb) : PE X (.BinOp a op b pos) (tOp r ta tb) := by
  intro pins s σ H Q I h
  exact wpAny_BinOp (binT ha hb I h fun v u s2 x y H2 I2 rx ry q => ho pins s2 σ H2 x y v u Q I2 rx ry q)
theorem pe_un {op : UnaryOp} {r : V → Hp → VK → Prop} (ho : UnR X (unaryOp op) r) (ha : PE X a ta) : PE X (.UnaryOp op a pos) (tUn r ta) := by
  intro pins s σ H Q I h
  exact UnaryOp_ (thn (ha pins s σ H _ I h) fun v s1 ⟨x, H1, I1, r1, q1⟩ => ho pins s1 σ H1 x v Q I1 r1 q1)

/-! ### ints -/
theorem opI {f : Value → Value → Sem Value} {C : Int → Int → Prop} {g : Int → Int → Int}
    (rule : ∀ (i j : Int) (t u : Tok) (s : Shared) (Q : Value → Shared → Prop) (E : Value → Shared → Prop), C i j → Q (.int (g i j) s.toks) { s with toks := s.toks + 1 } → wpAny (model X.prog X.w) X.A (f (.int i t) (.int j u)) Q E s) :
    OpR X f (rI C fun i j => .int (g i j)) := by
  intro pins s σ H x y v u Q I rx ry h
  obtain ⟨i, j, rfl, rfl, hc, q⟩ := h
  obtain ⟨t, rfl⟩ := rx
  obtain ⟨t', rfl⟩ := ry
  exact rule i j t t' s _ _ hc ⟨.int (g i j), H, I.tok _, ⟨_, rfl⟩, q⟩
theorem opI0 {f : Value → Value → Sem Value} {g : Int → Int → Int}
    (rule : ∀ (i j : Int) (t u : Tok) (s : Shared) (Q : Value → Shared → Prop) (E : Value → Shared → Prop), Q (.int (g i j) s.toks) { s with toks := s.toks + 1 } → wpAny (model X.prog X.w) X.A (f (.int i t) (.int j u)) Q E s) :
    OpR X f (rI0 fun i j => .int (g i j)) := by
  intro pins s σ H x y v u Q I rx ry h
  obtain ⟨i, j, rfl, rfl, q⟩ := h
  obtain ⟨t, rfl⟩ := rx
  obtain ⟨t', rfl⟩ := ry
  exact rule i j t t' s _ _ ⟨.int (g i j), H, I.tok _, ⟨_, rfl⟩, q⟩
theorem opB0 {f : Value → Value → Sem Value} {g : Int → Int → Bool}
    (rule : ∀ (i j : Int) (t u : Tok) (s : Shared) (Q : Value → Shared → Prop) (E : Value → Shared → Prop), Q (.bool (g i j)) s → wpAny (model X.prog X.w) X.A (f (.int i t) (.int j u)) Q E s) :
    OpR X f (rI0 fun i j => .bl (g i j)) := by
  intro pins s σ H x y v u Q I rx ry h
  obtain ⟨i, j, rfl, rfl, q⟩ := h
  obtain ⟨t, rfl⟩ := rx
  obtain ⟨t', rfl⟩ := ry
  exact rule i j t t' s _ _ ⟨.bl (g i j), H, I, rfl, q⟩

def CDiv (i j : Int) : Prop := 0 < j ∧ j < 1073741824
def CMul (i j : Int) : Prop := (-(2 ^ 64) < i ∧ i < 2 ^ 64) ∨ (-(2 ^ 64) < j ∧ j < 2 ^ 64)
theorem CMul.ok {i j : Int} (h : CMul i j) : IntMulOk i j := by
  rcases h with ⟨h1, h2⟩ | ⟨h1, h2⟩
  · exact .of_left (intBits_le_64 h1 h2)
  · exact .of_right (intBits_le_64 h1 h2)

theorem op_add : OpR X (binaryOp .Add) (rI0 fun i j => .int (i + j)) := opI0 fun _ _ _ _ _ _ _ q => add_int q
theorem op_mul : OpR X (binaryOp .Mult) (rI CMul fun i j => .int (i * j)) := opI fun _ _ _ _ _ _ _ hc q => mul_int q hc.ok
/-- // by a positive divisor -/
theorem op_fdiv : OpR X (binaryOp .FloorDiv) (rI CDiv fun i j => .int (i / j)) := opI fun i j _ _ _ _ _ hc q => by
  have h1 : (0 : Int) < j := hc.1
  have h2 : j < 1073741824 := hc.2
  exact floordiv_int (by omega) (by rw [Int.fdiv_eq_ediv_of_nonneg i (by omega)]; exact q) (.inl (PyProof.noPylong_small (by omega)))
/-- % by a positive divisor of any size -/
theorem op_mod : OpR X (binaryOp .Mod) (rI (fun _ j => 0 < j) fun i j => .int (i % j)) := opI fun i j _ _ _ _ _ hc q => by
  have h1 : (0 : Int) < j := hc
  exact mod_int' (by omega) (by rw [Int.fmod_eq_emod_of_nonneg i (by omega)]; exact q)


theorem unI {f : Value → Sem Value} {g : Int → Int}
    (rule : ∀ (i : Int) (t : Tok) (s : Shared) (Q : Value → Shared → Prop) (E : Value → Shared → Prop), Q (.int (g i) s.toks) { s with toks := s.toks + 1 } → wpAny (model X.prog X.w) X.A (f (.int i t)) Q E s) :
    UnR X f (rU fun i => .int (g i)) := by
  intro pins s σ H x v Q I rx h
  obtain ⟨i, rfl, q⟩ := h
  obtain ⟨t, rfl⟩ := rx
  exact rule i t s _ _ ⟨.int (g i), H, I.tok _, ⟨_, rfl⟩, q⟩
theorem un_neg : UnR X (unaryOp .USub) (rU fun i => .int (-i)) := unI fun _ _ _ _ _ q => neg_int q

/-! ### bools among ints: n += (a < b) -/
end

/-! ### comparisons -/
/-- the scalars that == tells apart as data does -/
def scal : V → V → Bool
  | .non, .non => true | .non, .int _ => true | .int _, .non => true | .non, .bl _ => true | .bl _, .non => true | .non, .str _ => true | .str _, .non => true
  | .int _, .int _ => true | .bl _, .bl _ => true | .str _, .str _ => true | .byt _, .byt _ => true
  | .int _, .str _ => true | .str _, .int _ => true | .bl _, .str _ => true | .str _, .bl _ => true
  | _, _ => false
def rEq : R2 := fun x y H Q => scal x y = true ∧ Q (.bl (decide (x = y))) H
def rNe : R2 := fun x y H Q => scal x y = true ∧ Q (.bl (!decide (x = y))) H

theorem dec_int {i j : Int} : decide (V.int i = V.int j) = (i == j) := by
  rw [Bool.eq_iff_iff]
  simp
theorem dec_bl {i j : Bool} : decide (V.bl i = V.bl j) = (i == j) := by
  rw [Bool.eq_iff_iff]
  simp
theorem dec_str {i j : Str} : decide (V.str i = V.str j) = (i == j) := by
  rw [Bool.eq_iff_iff]
  simp
theorem dec_byt {i j : Array UInt8} : decide (V.byt i = V.byt j) = (i.toList == j.toList) := by
  rw [Bool.eq_iff_iff]
  cases i
  cases j
  simp

section
variable {X : Cx} {a b c : Expr} {ta tb tc : TE} {pos : Pos}
theorem fin_bl {pins : List (Addr × Obj)} {σ : St} {H : Hp} {s : Shared} {Q : VK} {k k' : Bool} (I : Inv X pins σ H s) (q : Q (.bl k) H) (e : k = k') : EP X pins σ Q (.bool k') s := by
  subst e
  exact ⟨.bl k, H, I, rfl, q⟩
theorem op_eq : OpR X (compareOp .Eq) rEq := by
  intro pins s σ H x y v u Q I rx ry h
  obtain ⟨hs, q⟩ := h
  cases x with
  | non =>
    cases rx
    cases y with
    | non => cases ry; exact PySem.EqNone.eq_none_none (fin_bl I q (by simp))
    | bl j => cases ry; exact PySem.EqNone.eq_none_bool (fin_bl I q (by simp))
    | int j => obtain ⟨t', rfl⟩ := ry; exact PySem.EqNone.eq_none_int (fin_bl I q (by simp))
    | str j => obtain ⟨t', rfl⟩ := ry; exact PySem.EqNone.eq_none_str (fin_bl I q (by simp))
    | _ => exact absurd (show false = true from hs) Bool.false_ne_true
  | bl i =>
    cases rx
    cases y with
    | non => cases ry; exact PySem.EqNone.eq_bool_none (fin_bl I q (by simp))
    | bl j => cases ry; exact eq_bool (fin_bl I q dec_bl)
    | str j => obtain ⟨t', rfl⟩ := ry; exact PySem.EqMixed.eq_bool_str (fin_bl I q (by simp))
    | _ => exact absurd (show false = true from hs) Bool.false_ne_true
  | int i =>
    obtain ⟨t, rfl⟩ := rx
    cases y with
    | non => cases ry; exact PySem.EqNone.eq_int_none (fin_bl I q (by simp))
    | int j => obtain ⟨t', rfl⟩ := ry; exact eq_int (fin_bl I q dec_int)
    | str j => obtain ⟨t', rfl⟩ := ry; exact PySem.EqMixed.eq_int_str (fin_bl I q (by simp))
    | _ => exact absurd (show false = true from hs) Bool.false_ne_true
  | str i =>
    obtain ⟨t, rfl⟩ := rx
    cases y with
    | non => cases ry; exact PySem.EqNone.eq_str_none (fin_bl I q (by simp))
    | bl j => cases ry; exact PySem.EqMixed.eq_str_bool (fin_bl I q (by simp))
    | int j => obtain ⟨t', rfl⟩ := ry; exact PySem.EqMixed.eq_str_int (fin_bl I q (by simp))
    | str j => obtain ⟨t', rfl⟩ := ry; exact eq_str (fin_bl I q dec_str)
    | _ => exact absurd (show false = true from hs) Bool.false_ne_true
  | byt i =>
    obtain ⟨t, rfl⟩ := rx
    cases y with
    | byt j => obtain ⟨t', rfl⟩ := ry; exact PySem.W.eq_bytes (fin_bl I q dec_byt)
    | _ => exact absurd (show false = true from hs) Bool.false_ne_true
  | _ => cases y <;> exact absurd (show false = true from hs) Bool.false_ne_true
theorem op_ne : OpR X (compareOp .NotEq) rNe := by
  intro pins s σ H x y v u Q I rx ry h
  obtain ⟨hs, q⟩ := h
  cases x with
  | non =>
    cases rx
    cases y with
    | non => cases ry; exact PySem.EqNone.ne_none_none (fin_bl I q (by simp))
    | bl j => cases ry; exact PySem.EqNone.ne_none_bool (fin_bl I q (by simp))
    | int j => obtain ⟨t', rfl⟩ := ry; exact PySem.EqNone.ne_none_int (fin_bl I q (by simp))
    | str j => obtain ⟨t', rfl⟩ := ry; exact PySem.EqNone.ne_none_str (fin_bl I q (by simp))
    | _ => exact absurd (show false = true from hs) Bool.false_ne_true
  | bl i =>
    cases rx
    cases y with
    | non => cases ry; exact PySem.EqNone.ne_bool_none (fin_bl I q (by simp))
    | bl j => cases ry; exact ne_bool (fin_bl I q (congrArg not dec_bl))
    | str j => obtain ⟨t', rfl⟩ := ry; exact PySem.EqMixed.ne_bool_str (fin_bl I q (by simp))
    | _ => exact absurd (show false = true from hs) Bool.false_ne_true
  | int i =>
    obtain ⟨t, rfl⟩ := rx
    cases y with
    | non => cases ry; exact PySem.EqNone.ne_int_none (fin_bl I q (by simp))
    | int j => obtain ⟨t', rfl⟩ := ry; exact ne_int (fin_bl I q (congrArg not dec_int))
    | str j => obtain ⟨t', rfl⟩ := ry; exact PySem.EqMixed.ne_int_str (fin_bl I q (by simp))
    | _ => exact absurd (show false = true from hs) Bool.false_ne_true
  | str i =>
    obtain ⟨t, rfl⟩ := rx
    cases y with
    | non => cases ry; exact PySem.EqNone.ne_str_none (fin_bl I q (by simp))
    | bl j => cases ry; exact PySem.EqMixed.ne_str_bool (fin_bl I q (by simp))
    | int j => obtain ⟨t', rfl⟩ := ry; exact PySem.EqMixed.ne_str_int (fin_bl I q (by simp))
    | str j => obtain ⟨t', rfl⟩ := ry; exact ne_str (fin_bl I q (congrArg not dec_str))
    | _ => exact absurd (show false = true from hs) Bool.false_ne_true
  | byt i =>
    obtain ⟨t, rfl⟩ := rx
    cases y with
    | byt j => obtain ⟨t', rfl⟩ := ry; exact PySem.W.ne_bytes (fin_bl I q (congrArg not dec_byt))
    | _ => exact absurd (show false = true from hs) Bool.false_ne_true
  | _ => cases y <;> exact absurd (show false = true from hs) Bool.false_ne_true

theorem op_lt : OpR X (compareOp .Lt) (rI0 fun i j => .bl (decide (i < j))) := opB0 fun _ _ _ _ _ _ _ q => lt_int q
theorem op_le : OpR X (compareOp .LtE) (rI0 fun i j => .bl (decide (i ≤ j))) := opB0 fun _ _ _ _ _ _ _ q => le_int q
theorem op_gt : OpR X (compareOp .Gt) (rI0 fun i j => .bl (decide (j < i))) := opB0 fun _ _ _ _ _ _ _ q => gt_int q
theorem op_ge : OpR X (compareOp .GtE) (rI0 fun i j => .bl (decide (j ≤ i))) := opB0 fun _ _ _ _ _ _ _ q => ge_int q


/-- is, is not of two objects that are tracked lists or instances -/
def isObj : HO → Bool
  | .lst _ => true
  | .ins _ _ _ => true
  | _ => false


theorem nomark (b : Expr) {op : CmpOp} (h : op ≠ .In := by decide) (h2 : op ≠ .NotIn := by decide) : behindInMarks op b = false := by
  have e1 : (op == CmpOp.In) = false := by cases op <;> first | rfl | exact absurd rfl h
  have e2 : (op == CmpOp.NotIn) = false := by cases op <;> first | rfl | exact absurd rfl h2
  cases b <;> simp [behindInMarks, e1, e2]
/-- a comparison as a value; hm: nomark b, or (for in, not in) by with_unfolding_all rfl -/
theorem pe_cmpR {op : CmpOp} {r : R2} (ho : OpR X (compareOp op) r) (ha : PE X a ta) (hb : PE X b tb) (hm : behindInMarks op b = false) : PE X (.Compare a [op] [b] pos) (tOp r ta tb) := by
  intro pins s σ H Q I h
  exact wpAny_Compare1 (binT ha hb I h fun v u s2 x y H2 I2 rx ry q => ho pins s2 σ H2 x y v u Q I2 rx ry q) hm
/-- a reading of a value as a test -/
def tTest (t : TE) : TT := fun σ H Q => t σ H fun x H' => ∃ k, x = .bl k ∧ Q k H'
theorem pt_cmpR {op : CmpOp} {r : R2} (ho : OpR X (compareOp op) r) (ha : PE X a ta) (hb : PE X b tb) (hm : behindInMarks op b = false) : PT X (.Compare a [op] [b] pos) (tTest (tOp r ta tb)) := by
  intro pins s σ H Q I h
  refine wpAny_isTrue_Compare1 (thn (ha pins s σ H _ I h) fun v s1 ⟨x, H1, I1, r1, q1⟩ => thn (hb pins s1 σ H1 _ I1 q1) fun u s2 ⟨y, H2, I2, r2, q2⟩ =>
    thn (ho pins s2 σ H2 x y v u _ I2 r1 r2 q2) fun c s3 ⟨z, H3, I3, r3, k, e, q3⟩ => ?_) hm
  subst e
  cases r3
  exact wpAny_truthy_bool ⟨H3, I3, q3⟩
/-- a op1 b op2 c -/
def tChain (r r' : R2) (ta tb tc : TE) : TE := fun σ H Q => ta σ H fun x H1 => tb σ H1 fun y H2 => r x y H2 fun z H3 => ∃ k, z = .bl k ∧
  (if k = true then tc σ H3 fun w' H4 => r' y w' H4 Q else Q (.bl false) H3)
theorem pe_chain {op op' : CmpOp} {r r' : R2} (ho : OpR X (compareOp op) r) (ho' : OpR X (compareOp op') r') (ha : PE X a ta) (hb : PE X b tb) (hc : PE X c tc)
    (hm : lastMarks [op, op'] [b, c] = false := by with_unfolding_all rfl) : PE X (.Compare a [op, op'] [b, c] pos) (tChain r r' ta tb tc) := by
  intro pins s σ H Q I h
  refine Compare_chain (thn (ha pins s σ H _ I h) fun v s1 ⟨x, H1, I1, r1, q1⟩ => chain_link (thn (hb pins s1 σ H1 _ I1 q1) fun u s2 ⟨y, H2, I2, r2, q2⟩ =>
    thn (ho pins s2 σ H2 x y v u _ I2 r1 r2 q2) fun d s3 ⟨z, H3, I3, r3, k, e, q3⟩ => ?_)) hm
  subst e
  cases r3
  refine wpAny_truthy_bool ?_
  cases k with
  | false => exact ite_ff ⟨.bl false, H3, I3, rfl, q3⟩
  | true => exact ite_tt (chain_last (thn (hc pins s3 σ H3 _ I3 q3) fun w' s4 ⟨z', H4, I4, r4, q4⟩ => ho' pins s4 σ H4 y z' u w' Q I4 r2 r4 q4))
theorem pt_chain {op op' : CmpOp} {r r' : R2} (ho : OpR X (compareOp op) r) (ho' : OpR X (compareOp op') r') (ha : PE X a ta) (hb : PE X b tb) (hc : PE X c tc)
    (hm : lastMarks [op, op'] [b, c] = false := by with_unfolding_all rfl) : PT X (.Compare a [op, op'] [b, c] pos) (tTest (tChain r r' ta tb tc)) := by
  intro pins s σ H Q I h
  refine isTrue_chain (thn (ha pins s σ H _ I h) fun v s1 ⟨x, H1, I1, r1, q1⟩ => test_link (thn (hb pins s1 σ H1 _ I1 q1) fun u s2 ⟨y, H2, I2, r2, q2⟩ =>
    thn (ho pins s2 σ H2 x y v u _ I2 r1 r2 q2) fun d s3 ⟨z, H3, I3, r3, k, e, q3⟩ => ?_)) hm
  subst e
  cases r3
  refine wpAny_truthy_bool ?_
  cases k with
  | false =>
    obtain ⟨k', e', q'⟩ := q3
    cases e'
    exact ite_ff ⟨H3, I3, q'⟩
  | true =>
    refine ite_tt (test_last (thn (hc pins s3 σ H3 _ I3 q3) fun w' s4 ⟨z', H4, I4, r4, q4⟩ => thn (ho' pins s4 σ H4 y z' u w' _ I4 r2 r4 q4) fun d' s5 ⟨z2, H5, I5, r5, k2, e2, q5⟩ => ?_))
    subst e2
    cases r5
    exact wpAny_truthy_bool ⟨H5, I5, q5⟩

/-! ### truth -/
theorem line63 : (sizeLine : Nat) < 2 ^ 63 := by rw [sizeLine_eq]; decide

/-! ### strs and bytes -/


/-! ### scalar builtins, by CallR -/
theorem vals1 {x : V} {us : List Value} (r : Vals [x] us) : ∃ u, us = [u] ∧ RelV x u := by
  cases r with
  | cons r1 r2 => cases r2; exact ⟨_, rfl, r1⟩
theorem call_abs : CallR X (.builtin "abs") (fun xs H Q => ∃ i, xs = [.int i] ∧ Q (.int (if i < 0 then -i else i)) H) := by
  intro pins s σ H xs us Q I r h
  obtain ⟨i, rfl, q⟩ := h
  obtain ⟨u, rfl, t, rfl⟩ := vals1 r
  exact call_abs_int fun u tk => ⟨.int (if i < 0 then -i else i), H, I.tok _, ⟨_, rfl⟩, q⟩
end
end L2

namespace L2
open PySem PySem.Spec PyProof.Rows

/-! ### an instance, its attributes a map -/
structure ObjM (h : Heap) (x dx C : Addr) (mA : Str → Option Value) : Prop where
  obj : h.get? x = some (PySem.W.instObj C dx)
  ns : h.Ns1 dx mA
  ne : dx ≠ x

theorem lookIn_ns {h : Heap} {dx : Addr} {mA : Str → Option Value} (n : h.Ns1 dx mA) : ∃ od, h.get? dx = some od ∧ ∀ name, PySem.W.lookIn name od = some (mA name) := by
  obtain ⟨o, es, ep, ho, hd, hk, _, hm⟩ := n
  refine ⟨o, ho, fun name => ?_⟩
  have e := hm name
  unfold nsFind findBy at e
  rw [← Array.find?_toList] at e
  unfold PySem.W.lookIn
  rw [hd]
  dsimp only
  split
  · rename_i y q
    rw [q] at e
    exact congrArg some e
  · rename_i q
    rw [q] at e
    have a : es.toList.any (·.refKey) = false := by
      rw [List.any_eq_false]
      intro y hy
      obtain ⟨z, t, hkey⟩ := hk y (Array.mem_toList_iff.mp hy)
      simp [DictEntry.refKey, hkey]
    have a' : ¬ es.toList.any (·.refKey) = true := by rw [a]; exact Bool.false_ne_true
    rw [if_neg a']
    exact congrArg some e

theorem ObjM.look {h : Heap} {x dx C : Addr} {mA : Str → Option Value} (I : ObjM h x dx C mA) : ∃ od, PySem.W.InstAt h x (PySem.W.instObj C dx) C (some od) ∧ ∀ name, PySem.W.lookIn name od = some (mA name) :=
  let ⟨od, ho, hl⟩ := lookIn_ns I.ns
  ⟨od, ⟨I.obj, rfl, rfl, ho⟩, hl⟩

section
variable {prog : Program} {w : World} {A : Around} {E : Value → Shared → Prop} {s : Shared} {K : PySem.W.Frag} {x dx C f : Addr} {mA : Str → Option Value} {name : Str} {v : Value}



theorem get_meth {pl : Sem Bool} {Q : Value × List Value → Shared → Prop} (X : K.In s.heap) (I : ObjM s.heap x dx C mA) (hg : PySem.W.plainGet K C name = true)
    (hf : PySem.W.findIn K (.ref C) name = some (some (.ref f))) (ht : PySem.W.isFn K (.ref f) = true) (hv : mA name = none) (h : Q (.ref f, [.ref x]) s) :
    wpAny (model prog w) A (getMethod (.ref x) name pl) Q E s := by
  obtain ⟨od, J, hl⟩ := I.look
  exact PySem.W.method_fn X J (PySem.W.plainGet_of hg).1 (PySem.W.plainGet_of hg).2 hf (beq_iff_eq.mp ht) (by show (PySem.W.lookIn name od).map (·.isSome) = some false; rw [hl, hv]; rfl) h


/-- C(..): the dict at the heap's end, the instance behind it; then its __init__ -/
theorem make_map {R : Result → Shared → Prop} {vs : List Value} {kw : List (Str × Value)} (X : K.In s.heap) (hm : PySem.W.makesIn K C = true)
    (hi : PySem.W.findIn K (.ref C) "__init__" = some (some (.ref f))) (hf : PySem.W.typeIn K (.ref f) = some (.type "function"))
    (h : codeAny (model prog w) (A.under (.builtin "type.__call__" ⟨.ref C :: vs, kw⟩)) (.call (.ref f) ⟨.ref (s.heap.objs.size + 1) :: vs, kw⟩) (PySem.W.InitBack (s.heap.objs.size + 1) R)
      { s with heap := (s.heap.push PySem.W.emptyDict).push (PySem.W.instObj C s.heap.objs.size) }) :
    codeAny (model prog w) A (.call (.ref C) ⟨vs, kw⟩) R s := by
  obtain ⟨hh, g, d, t, os⟩ := s
  exact PySem.W.make_core (PySem.W.makes_of X hm) (PySem.W.looks_findIn X hi) (fun self => PySem.W.bind_fn X self hf) (.inl rfl) h
end

/-! ### the attributes as a list of pairs -/

theorem RelO.some_of {v : V} {o : Option Value} (r : RelO (some v) o) : ∃ u, o = some u ∧ RelV v u := by
  cases o with
  | none => exact (show False from r).elim
  | some u => exact ⟨u, rfl, r⟩
theorem RelO.none_of {o : Option Value} (r : RelO none o) : o = none := by
  cases o with
  | none => rfl
  | some u => exact (show False from r).elim

section
variable {P : Program} {w : World} {H H' : Hp} {h h' : Heap} {a C dx : Addr} {fs fs' : List (Str × V)}
theorem ins_get (hok : HOk P w H h) (e : H a = some (.ins C dx fs)) : ∃ mA, ObjM h a dx C mA ∧ (∀ f, RelO (fs.lookup f) (mA f)) ∧ PySem.Within mA (fs.map (·.1)) ∧ fs.length ≤ 1000 ∧ H dx = some (.own a) := by
  obtain ⟨d, z, ne, ob, mA, n, r, q⟩ := (show ObjOk P w H h a (.ins C dx fs) from hok a _ e)
  exact ⟨mA, ⟨ob, n, ne⟩, r, q, z, d⟩
end

/-! ### what of the text a class must have -/
structure Cls (K : PySem.W.Frag) (C : Addr) : Prop where
  pg : PySem.W.plainGet K C Str.empty = true
  hd : PySem.W.hasDictIn K C = true
  po : PySem.W.plainOver K C = true
  sa : PySem.W.findIn K (.ref C) "__setattr__" = some (some (.builtin "object.__setattr__"))
theorem Cls.get {K : PySem.W.Frag} {C : Addr} (c : Cls K C) (f : Str) : PySem.W.plainGet K C f = true := c.pg
/-- no class of it has the name -/
def NoAttr (K : PySem.W.Frag) (C : Addr) (f : Str) : Prop := PySem.W.findIn K (.ref C) f = some none
/-- a constant of the class -/
structure Con (K : PySem.W.Frag) (C : Addr) (f : Str) (v : V) (u : Value) : Prop where
  at_ : PySem.W.findIn K (.ref C) f = some (some u)
  rel : RelV v u
  get : PySem.W.specialIn K u "__get__" = some none
  cp : PySem.W.copiedNames.contains f = false
/-- a method: a plain def of the class or of one above it -/
structure Meth (K : PySem.W.Frag) (C : Addr) (m : Str) (f : Addr) : Prop where
  at_ : PySem.W.findIn K (.ref C) m = some (some (.ref f))
  fn : PySem.W.isFn K (.ref f) = true
  kp : PySem.W.keepIn K (.ref f) = true

section
variable {X : Cx} {pins : List (Addr × Obj)} {σ : St} {H : Hp} {s : Shared} {a C dx : Addr} {fs : List (Str × V)} {f : Str} {v : V} {A : Around} {E : Value → Shared → Prop}



theorem getmeth_ok {m : Str} {g : Addr} {pl : Sem Bool} {Q : Value × List Value → Shared → Prop} (I : Inv X pins σ H s) (e : H a = some (.ins C dx fs)) (c : Cls X.K C) (k : Meth X.K C m g) (l : fs.lookup m = none)
    (h : Q (.ref g, [.ref a]) s) : wpAny (model X.prog X.w) A (getMethod (.ref a) m pl) Q E s := by
  obtain ⟨mA, O, r, _, _, _⟩ := ins_get I.hok e
  have hn : mA m = none := RelO.none_of (by rw [← l]; exact r m)
  exact get_meth I.kIn O (c.get m) k.at_ k.fn hn h


/-- a new instance, tracked, without attributes -/
theorem Inv.made (I : Inv X pins σ H s) : Inv X pins σ (upd (upd H s.heap.objs.size (.own (s.heap.objs.size + 1))) (s.heap.objs.size + 1) (.ins C s.heap.objs.size []))
    { s with heap := (s.heap.push PySem.W.emptyDict).push (PySem.W.instObj C s.heap.objs.size) } := by
  have e1 : (s.heap.push PySem.W.emptyDict).get? s.heap.objs.size = some PySem.W.emptyDict := Heap.get?_push_size s.heap rfl
  have e2 : ((s.heap.push PySem.W.emptyDict).push (PySem.W.instObj C s.heap.objs.size)).get? (s.heap.objs.size + 1) = some (PySem.W.instObj C s.heap.objs.size) := by
    have := Heap.get?_push_size (s.heap.push PySem.W.emptyDict) (o := PySem.W.instObj C s.heap.objs.size) rfl
    rwa [Heap.size_push] at this
  have e3 : (s.heap.push PySem.W.emptyDict).Ns s.heap.objs.size (fun _ => none) := ⟨PySem.W.emptyDict, #[], _, e1, rfl, (fun e he => absurd he (by simp)), fun _ => rfl⟩
  have I1 := I.laid (a := s.heap.objs.size) (o := .own (s.heap.objs.size + 1)) (h' := s.heap.push PySem.W.emptyDict) (t' := s.toks) (fun b u q => Heap.get?_push_of_some _ q) (Nat.le_refl _) ⟨_, e1⟩
  refine I1.laid (a := s.heap.objs.size + 1) (o := .ins C s.heap.objs.size []) (t' := s.toks) (fun b u q => Heap.get?_push_of_some _ q) (Nat.le_of_eq (Heap.size_push _ _)) ?_
  have ne : s.heap.objs.size ≠ s.heap.objs.size + 1 := Nat.ne_of_lt (Nat.lt_succ_self _)
  refine ⟨by rw [upd_ne ne, upd_same], Nat.zero_le _, ne, e2, fun _ => none, (Heap.Ns1.of_empty e3).at fun o q => Heap.get?_push_of_some _ q, fun _ => True.intro, fun y hy => absurd rfl hy⟩

end

/-! ### readings and rules -/
/-- e.f, an attribute of the instance -/
def tFld (K : PySem.W.Frag) (ta : TE) (f : Str) : TE := fun σ H Q => ta σ H fun x H1 => ∃ a C dx fs v, x = .ref a ∧ H1 a = some (.ins C dx fs) ∧ Cls K C ∧ NoAttr K C f ∧ fs.lookup f = some v ∧ Q v H1

section
variable {X : Cx} {o e value : Expr} {f : Str} {pos pos' tpos : Pos} {ta tv : TE}

/-- what is between an instance and its method: the tree of a method call -/
theorem methcall_of {pl : Sem Bool} {m : Str} {apos : Pos} {args : List Expr} {pins : List (Addr × Obj)} {s : Shared} {σ : St} {H : Hp} {Q : Value → Shared → Prop} {te : TE} (he : PE X e te) (I : Inv X pins σ H s)
    (h : te σ H fun x H1 => ∃ a C dx fs g, x = .ref a ∧ H1 a = some (.ins C dx fs) ∧ Cls X.K C ∧ Meth X.K C m g ∧ fs.lookup m = none ∧
      ∀ s1, Inv X pins σ H1 s1 → wpAny (model X.prog X.w) X.A (callWith pos (.ref g) [.ref a] (backTo pos (starEach args X.env)) (backToKw pos (keywordEach [] X.env))) Q X.xe s1)
    (ht : eval (.Call (.Attribute e m apos) args [] pos) X.env = (do
      let ov ← eval e X.env
      standAt apos.atName
      let (f, first) ← holding [ov] (getMethod ov m pl)
      callWith pos f first (backTo pos (starEach args X.env)) (backToKw pos (keywordEach [] X.env)))) :
    wpAny (model X.prog X.w) X.A (eval (.Call (.Attribute e m apos) args [] pos) X.env) Q X.xe s := by
  refine PySem.W.methodCall_KW (pl := pl) (thn (he pins s σ H _ I h) fun u s1 ⟨x, H1, I1, rx, a, C, dx, fs, g, ex, ea, c, k, l, q⟩ => ?_) ht
  subst ex
  obtain rfl : u = Value.ref a := rx
  exact getmeth_ok I1 ea c k l (q s1 I1)
end

/-! ### isinstance -/
section
variable {X : Cx} {pins : List (Addr × Obj)} {σ : St} {H : Hp} {s : Shared} {A : Around} {E : Value → Shared → Prop} {Q : Value → Shared → Prop} {c : Value} {b : Bool}
/-- the type of a value, as the fragment's deciders take it; for an instance its class -/
inductive TyOf (K : PySem.W.Frag) (H : Hp) : V → Value → Prop where
  | non : TyOf K H .non (.type "NoneType")
  | bl (x : Bool) : TyOf K H (.bl x) (.type "bool")
  | int (i : Int) : TyOf K H (.int i) (.type "int")
  | str (x : Str) : TyOf K H (.str x) (.type "str")
  | flt (x : UInt64) : TyOf K H (.flt x) (.type "float")
  | lst {a : Addr} {xs : List V} (e : H a = some (.lst xs)) : TyOf K H (.ref a) (.type "list")
  | frz {a : Addr} {o : Obj} {xs : List V} (e : H a = some (.frz o (.lst xs))) : TyOf K H (.ref a) (.type "list")
  | tup {a : Addr} {xs : List V} (e : H a = some (.tup xs)) : TyOf K H (.ref a) (.type "tuple")
  | dK {a : Addr} {kvs : List (Key × V)} (e : H a = some (.dK kvs)) : TyOf K H (.ref a) (.type "dict")
  | dT {a : Addr} {kvs : List (List Key × V)} (e : H a = some (.dT kvs)) : TyOf K H (.ref a) (.type "dict")
  | ins {a C dx : Addr} {fs : List (Str × V)} (e : H a = some (.ins C dx fs)) (cl : Cls K C) (ha : PySem.W.findIn K (.ref C) "__class__" = some (some (.builtin "object.__class__")))
      (hn : PySem.W.specialIn K (.builtin "object.__class__") "__get__" = some (some (.builtin "getset_descriptor.__get__"))) (htk : PySem.W.takesIn K (.builtin "object.__class__") = some true)
      (hm : PySem.W.mroIn K C (.type "object") = some true) : TyOf K H (.ref a) (.ref C)
/-- isinstance(x, c) for one class c, a built-in or an own one: kitOne's answer -/
theorem isinst_ok {x : V} {u t : Value} (I : Inv X pins σ H s) (rx : RelV x u) (ty : TyOf X.K H x t) (e : PySem.W.kitOne X.K t c = some b) (h : ∀ tk, Q (.bool b) { s with toks := tk }) :
    wpAny (model X.prog X.w) A (call (.builtin "isinstance") [u, c]) Q E s := by
  cases ty with
  | non => cases (show u = Value.none from rx); exact PySem.W.kia_one PySem.W.kitx_none I.kIn True.intro e (fun z => nomatch z) h
  | bl y => cases (show u = Value.bool y from rx); exact PySem.W.kia_one PySem.W.kitx_bool I.kIn True.intro e (fun z => nomatch z) h
  | int i => obtain ⟨t, q⟩ := (show ∃ t, u = Value.int i t from rx); cases q; exact PySem.W.kia_one PySem.W.kitx_int I.kIn True.intro e (fun z => nomatch z) h
  | str y => obtain ⟨t, q⟩ := (show ∃ t, u = Value.str y t from rx); cases q; exact PySem.W.kia_one PySem.W.kitx_str I.kIn True.intro e (fun z => nomatch z) h
  | flt y => obtain ⟨t, q⟩ := (show ∃ t, u = Value.float y t from rx); cases q; exact PySem.W.kia_one PySem.W.kitx_float I.kIn True.intro e (fun z => nomatch z) h
  | @lst a xs ea =>
    cases (show u = Value.ref a from rx)
    obtain ⟨_, _, n, _, h1⟩ := (show ObjOk X.prog X.w H s.heap a (.lst xs) from I.hok a _ ea)
    exact PySem.W.kia_one PySem.W.kitx_list I.kIn ⟨_, h1, rfl⟩ e (fun z => nomatch z) h
  | @frz a ob xs ea =>
    cases (show u = Value.ref a from rx)
    obtain ⟨_, _, _, n, _, h1⟩ := (show ObjOk X.prog X.w H s.heap a (.frz ob (.lst xs)) from I.hok a _ ea)
    exact PySem.W.kia_one PySem.W.kitx_list I.kIn ⟨_, h1, rfl⟩ e (fun z => nomatch z) h
  | @tup a xs ea =>
    cases (show u = Value.ref a from rx)
    obtain ⟨_, _, _, p⟩ := (show ObjOk X.prog X.w H s.heap a (.tup xs) from I.hok a _ ea)
    obtain ⟨o, h1, h2, _⟩ := p
    exact PySem.W.kia_one PySem.W.kitx_tuple I.kIn ⟨o, h1, h2⟩ e (fun z => nomatch z) h
  | @dK a kvs ea =>
    cases (show u = Value.ref a from rx)
    obtain ⟨_, _, vs, _, p⟩ := (show ObjOk X.prog X.w H s.heap a (.dK kvs) from I.hok a _ ea)
    obtain ⟨o, es, ep, h1, h2, _⟩ := p
    exact PySem.W.kia_one PySem.W.kitx_dict I.kIn ⟨o, h1, h2.1⟩ e (fun z => nomatch z) h
  | @dT a kvs ea =>
    cases (show u = Value.ref a from rx)
    obtain ⟨_, _, xs, _, o, es, ep, h1, h2, _⟩ := (show ObjOk X.prog X.w H s.heap a (.dT kvs) from I.hok a _ ea)
    exact PySem.W.kia_one PySem.W.kitx_dict I.kIn ⟨o, h1, h2.1⟩ e (fun z => nomatch z) h
  | @ins a C dx fs ea cl ha hn htk hm =>
    cases (show u = Value.ref a from rx)
    obtain ⟨mA, O, _⟩ := ins_get I.hok ea
    obtain ⟨od, J, _⟩ := O.look
    exact PySem.W.kia_one (PySem.W.kitx_own (cl.get _) cl.hd ha hn htk hm) I.kIn J e (fun z => nomatch z) h
end
end L2

namespace L2
open PySem PySem.Spec PyProof.Rows

/-! ### room -/
structure Room (k : Nat) (A : Around) : Prop where
  hd : A.handled = none
  dp : A.depth + 3 * k + 5 < recursionLimit
  un : A.units + 16 * k + 200 < cLine
theorem Room.mono {j k : Nat} {A : Around} (r : Room k A) (h : j ≤ k) : Room j A := ⟨r.hd, by have := r.dp; omega, by have := r.un; omega⟩
theorem Room.deeper {k : Nat} {A : Around} (r : Room (k + 1) A) (env : Env) : Room k (A.deeper env) :=
  ⟨r.hd, by have := r.dp; show A.depth + 1 + 3 * k + 5 < _; omega, by have := r.un; show A.units + 3 + 16 * k + 200 < _; omega⟩
theorem Room.depth {k : Nat} {A : Around} (r : Room k A) : A.depth < recursionLimit := by have := r.dp; omega
theorem Room.units {k : Nat} {A : Around} (r : Room k A) : A.units + 64 < cLine := by have := r.un; omega

/-! ### argument lists and displays -/
def tNil : TA := fun _ H Q => Q [] H
def tCons (ta : TE) (tr : TA) : TA := fun σ H Q => ta σ H fun x H1 => tr σ H1 fun xs H2 => Q (x :: xs) H2
section
variable {X : Cx} {e : Expr} {es : List Expr} {te : TE} {t : TA} {pos : Pos}
theorem pa_nil : PA X [] tNil := fun _ _ _ _ H Q I h => Calls.spliced_nil ⟨[], H, I, .nil, h⟩
theorem pa_cons (ha : PE X e te) (hr : PA X es t) (hs : starEach (e :: es) X.env = (false, eval e X.env) :: starEach es X.env := by rfl) : PA X (e :: es) (tCons te t) := by
  intro pos pins s σ H Q I h
  rw [hs]
  show wpAny _ _ (spliced ((false, eval e X.env) :: backTo pos (starEach es X.env))) _ _ s
  refine Calls.spliced_cons (thn (ha pins s σ H _ I h) fun u s1 ⟨x, H1, I1, r1, q1⟩ => ?_)
  exact thn (hr pos pins s1 σ H1 _ I1 q1) fun us s2 ⟨xs, H2, I2, r2, q2⟩ => ⟨x :: xs, H2, I2, .cons r1 r2, q2⟩

/-- a tuple, a list of written items -/
def tTup (t : TA) : TE := fun σ H Q => t σ H fun xs H1 => xs.length ≤ sizeLine ∧ ∀ p, H1 p = none → Q (.ref p) (upd H1 p (.tup xs))
def tLst (t : TA) : TE := fun σ H Q => t σ H fun xs H1 => xs.length ≤ sizeLine ∧ ∀ p, H1 p = none → Q (.ref p) (upd H1 p (.lst xs))
theorem pe_tup {x1} (h : PA X es t) : PE X (.Tuple es x1 pos) (tTup t) := by
  intro pins s σ H Q I hq
  refine wpAny_Tuple_spliced (thn (h pos pins s σ H _ I hq) fun us s1 ⟨xs, H1, I1, r, z, q⟩ => ⟨by rw [← r.length]; exact z, ?_⟩)
  have hf : H1 s1.heap.objs.size = none := I1.hok.fresh (Nat.le_refl _)
  refine ⟨.ref s1.heap.objs.size, upd H1 s1.heap.objs.size (.tup xs), I1.laid (t' := s1.toks) (fun b u e => Heap.get?_push_of_some _ e) (Nat.le_refl _) ?_, rfl, q _ hf⟩
  exact ⟨z, us, r, ⟨_, Heap.get?_push_size _ rfl, rfl, _, rfl⟩⟩
theorem pe_lst (h : PA X es t) : PE X (.List es pos) (tLst t) := by
  intro pins s σ H Q I hq
  refine wpAny_List_spliced (thn (h pos pins s σ H _ I hq) fun us s1 ⟨xs, H1, I1, r, z, q⟩ => ⟨by rw [← r.length]; exact z, ?_⟩)
  have hf : H1 s1.heap.objs.size = none := I1.hok.fresh (Nat.le_refl _)
  refine ⟨.ref s1.heap.objs.size, upd H1 s1.heap.objs.size (.lst xs), I1.laid (t' := s1.toks) (fun b u e => Heap.get?_push_of_some _ e) (Nat.le_refl _) ?_, rfl, q _ hf⟩
  exact ⟨z, us, 0, r, Heap.get?_push_size _ rfl⟩
end

/-! ### what a def promises -/
/-- a def's promise: the bound arguments in the parameters' order, the heap, the wanted end, the wanted exception -/
abbrev Sp := List V → Hp → VK → XK → Prop
/-- how an exception lies behind a call (file 08 gives it): the callers' frames, abstract heap and state ahead of the call, the wish, the exception, the state -/
abbrev CXT := List Env → Hp → Shared → XK → Value → Shared → Prop

/-- the state at a call -/
structure Env0 (P : Program) (w : World) (K : PySem.W.Frag) (mg : Str → Option Value) (base : Heap) (A : Around) (outer : List Env) (s : Shared) (H : Hp) : Prop where
  frames : A.frames = some outer
  mod : Mod K mg base
  bs : ∀ b o, base.get? b = some o → s.heap.get? b = some o ∧ H b = none
  bsz : base.objs.size ≤ s.heap.objs.size
  funs : s.heap.FunFrames base outer
  frf : ∀ b ∈ frs outer, H b = none
  hok : HOk P w H s.heap
  bare : AllBare s.gens
/-- a call's end -/
def CE (outer : List Env) (P : Program) (w : World) (H : Hp) (s : Shared) (Q : VK) (u : Value) (s' : Shared) : Prop :=
  ∃ v H', s'.os = s.os ∧ AllBare s'.gens ∧ Un (frs outer) [] H H' s.heap s'.heap ∧ HOk P w H' s'.heap ∧ RelV v u ∧ Q v H'
def CR (CX : CXT) (outer : List Env) (P : Program) (w : World) (H : Hp) (s : Shared) (Q : VK) (E : XK) (r : Result) (s' : Shared) : Prop :=
  match r with
  | .ok (.ret u) => CE outer P w H s Q u s'
  | .ok _ => False
  | .error e => CX outer H s E e s'
structure FnOk (P : Program) (w : World) (K : PySem.W.Frag) (mg : Str → Option Value) (base : Heap) (CX : CXT) (k : Nat) (f : Addr) (fd : FuncData) (ps : List Str) (sp : Sp) : Prop where
  len : ∀ vs H Q E, sp vs H Q E → vs.length = ps.length
  run : ∀ (A : Around) (outer : List Env) (s : Shared) (H : Hp) (args : Args) (us : List Value) (vs : List V) (Q : VK) (E : XK), Room k A → Env0 P w K mg base A outer s H → BindsTo s fd args (ps.zip us) → Vals vs us → sp vs H Q E →
    codeAny (model P w) A (.call (.ref f) args) (CR CX outer P w H s Q E) s


section
variable {X : Cx} {pins : List (Addr × Obj)} {σ : St} {H : Hp} {s s' : Shared}
/-- from a body: what a callee wants -/
theorem Inv.env0 (I : Inv X pins σ H s) : Env0 X.prog X.w X.K X.mg X.base X.A X.stack s H :=
  ⟨I.ok.frames, I.ok.mod, I.bs, Nat.le_trans I.ok.bsz I.sz, I.stack, I.stkFree, I.hok, I.bare⟩
/-- behind a call -/
theorem Inv.after {Q : VK} {u : Value} (I : Inv X pins σ H s) (h : CE X.stack X.prog X.w H s Q u s') : EP X pins σ Q u s' := by
  obtain ⟨v, H', os, bare, un, hok, r, q⟩ := h
  obtain ⟨hh, g, d, t, os'⟩ := s'
  obtain rfl : os' = s.os := os
  exact ⟨v, H', I.call (h' := hh) (g' := g) (d' := d) (t' := t) (ch := []) un hok bare (fun b z => absurd z (by simp)), r, q⟩
end

/-! ### calls -/
/-- f(..): the written arguments, then the defaults dvs; E: what is wanted of an exception -/
def tCall (sp : Sp) (dvs : List V) (E : XK) (t : TA) : TE := fun σ H Q => t σ H fun vs H1 => sp (vs ++ dvs) H1 Q E
/-- o.m(..) of an instance of the class at C -/
def tMeth (C : Addr) (m : Str) (sp : Sp) (dvs : List V) (E : XK) (ta : TE) (t : TA) : TE := fun σ H Q => ta σ H fun x H1 => ∃ a dx fs, x = .ref a ∧ H1 a = some (.ins C dx fs) ∧ fs.lookup m = none ∧
  t σ H1 fun vs H2 => sp (x :: (vs ++ dvs)) H2 Q E
/-- C(..): a new instance and its dict, then __init__ -/
def tMake (C : Addr) (sp : Sp) (dvs : List V) (E : XK) (t : TA) : TE := fun σ H Q => t σ H fun vs H1 => ∀ x dx, H1 x = none → H1 dx = none → dx ≠ x →
  sp (.ref x :: (vs ++ dvs)) (upd (upd H1 dx (.own x)) x (.ins C dx [])) (fun v H2 => v = .non ∧ Q (.ref x) H2) E

/-- how the parameters are bound: us the positional arguments, kw the keywords' values by name, ds the defaults that fill up -/
def Binds (K : PySem.W.Frag) (fd : FuncData) (ps : List Str) (ds : List Value) : Prop :=
  ∀ (s : Shared) (us : List Value), K.In s.heap → (us ++ ds).length = ps.length → BindsTo s fd ⟨us, []⟩ (ps.zip (us ++ ds))
/-- every parameter is given -/
theorem Binds.all {K : PySem.W.Frag} {fd : FuncData} {ps : List Str} (h : ∀ us : List Value, us.length = ps.length → bindArgs fd ⟨us, []⟩ = pure (ps.zip us)) : Binds K fd ps [] := fun s us _ hl => by
  rw [List.append_nil] at hl ⊢
  exact .of_eq (h us hl)

/-- an exception of a callee reaches what this body wants of exceptions -/
def Passes (CX : CXT) (X : Cx) (E : XK) : Prop := ∀ (pins : List (Addr × Obj)) (σ : St) (H : Hp) (s : Shared) (e : Value) (s' : Shared), Inv X pins σ H s → CX X.stack H s E e s' → X.xe e s'

section
variable {X : Cx} {CX : CXT} {k : Nat} {f C : Addr} {fd : FuncData} {ps : List Str} {sp : Sp} {dvs : List V} {ds : List Value} {E : XK} {x m : Str} {p pos apos : Pos} {e o : Expr} {es : List Expr} {ta : TE} {t : TA}

/-- the callee runs -/
theorem run_fn {pins : List (Addr × Obj)} {σ : St} {H : Hp} {s : Shared} {Q : VK} {us : List Value} {vs : List V} (F : FnOk X.prog X.w X.K X.mg X.base CX k f fd ps sp) (hr : Room k X.A) (hb : Binds X.K fd ps ds) (hd : Vals dvs ds) (hx : Passes CX X E)
    (I : Inv X pins σ H s) (r : Vals vs us) (h : sp (vs ++ dvs) H Q E) : wpAny (model X.prog X.w) X.A (call (.ref f) us) (EP X pins σ Q) X.xe s := by
  have r2 : Vals (vs ++ dvs) (us ++ ds) := r.append hd
  have hl : (us ++ ds).length = ps.length := by rw [← r2.length]; exact F.len _ _ _ _ h
  refine wpAny_call (codeAny_mono (F.run X.A X.stack s H ⟨us, []⟩ (us ++ ds) (vs ++ dvs) Q E hr I.env0 (hb s us I.kIn hl) r2 h) fun r s' hq => ?_)
  cases r with
  | error e => exact hx pins σ H s e s' I hq
  | ok fl =>
    cases fl with
    | ret u => exact I.after hq
    | next => exact False.elim hq
    | brk => exact False.elim hq
    | cont => exact False.elim hq

theorem pe_call (F : FnOk X.prog X.w X.K X.mg X.base CX k f fd ps sp) (hr : Room k X.A) (hg : Gl X x) (hm : X.mg x = some (.ref f)) (hk : PySem.W.keepIn X.K (.ref f) = true) (hb : Binds X.K fd ps ds) (hd : Vals dvs ds) (hx : Passes CX X E)
    (ha : PA X (e :: es) t) (hdb : (x == ("__debug__" : Str)) = false := by decide) (he : starEach (e :: es) X.env = (false, eval e X.env) :: starEach es X.env := by rfl) (hpl : (backTo pos (starEach es X.env)).any (·.1) = false := by rfl) :
    PE X (.Call (.Name x p) (e :: es) [] pos) (tCall sp dvs E t) := by
  intro pins s σ H Q I h
  refine wpAny_Call_Name_kw (ld_glob I hg hm ?_ hdb)
  refine PySem.W.callWith_K (h₀ := X.base) I.ok.mod.kin hk (thn (ha pos pins s σ H _ I h) fun us s1 ⟨vs, H1, I1, r, q⟩ => ⟨I1.kIn, ?_⟩) he hpl
  exact run_fn F hr hb hd hx I1 r q


/-- what a class must have to be made -/
structure Mk (K : PySem.W.Frag) (C f : Addr) : Prop where
  makes : PySem.W.makesIn K C = true
  init : PySem.W.findIn K (.ref C) "__init__" = some (some (.ref f))
  fn : PySem.W.isFn K (.ref f) = true
  kp : PySem.W.keepIn K (.ref C) = true

end

/-! ### keywords -/
section
variable {X : Cx} {CX : CXT} {k : Nat} {f C : Addr} {fd : FuncData} {ps ks : List Str} {sp : Sp} {E : XK} {x m : Str} {p pos apos kpos : Pos} {e o : Expr} {es : List Expr} {kws : List Keyword} {te ta : TE} {t tk : TA} {nm : Option Str}

/-- how a call with keywords binds: g puts the positional values us and the keywords' values ws (names ks) in the parameters' order, defaults among them -/
structure KBinds (K : PySem.W.Frag) (fd : FuncData) (ps ks : List Str) (g : List Value → List Value → List Value) (gV : List V → List V → List V) : Prop where
  to : ∀ (s : Shared) (us ws : List Value), K.In s.heap → (g us ws).length = ps.length → BindsTo s fd ⟨us, ks.zip ws⟩ (ps.zip (g us ws))
  rel : ∀ {vs : List V} {us : List Value} {zs : List V} {ws : List Value}, Vals vs us → Vals zs ws → Vals (gV vs zs) (g us ws)
variable {g : List Value → List Value → List Value} {gV : List V → List V → List V}
end

/-! ### a def's body keeps its promise -/
/-- names: the parameters first -/
structure FnScope (N P : List Str) (sc : Scope) : Prop where
  kind : sc.kind = .function
  co : sc.isCoroutine = false
  gen : sc.isGenerator = false
  nd : N.Nodup
  pre : N.take P.length = P
  par : ∀ x ∈ P, sc.names.lookup x = some .local ∨ sc.names.lookup x = some .cell
  nofree : ∀ y ∈ sc.names, y.2 ≠ .free

theorem bindL_out {kindOf : Str → Option NameKind} {x : Str} : ∀ {binds : List (Str × Value)} {m : Str → Option Value}, (∀ v, (x, v) ∉ binds) → bindL kindOf binds m x = m x
  | [], _, _ => rfl
  | (n, v) :: r, m, h => by
    unfold bindL
    rw [bindL_out fun w hw => h w (List.mem_cons_of_mem _ hw)]
    split
    · have : x ≠ n := by rintro rfl; exact h v List.mem_cons_self
      simp [this]
    · rfl
theorem bindC_out {kindOf : Str → Option NameKind} {x : Str} : ∀ {binds : List (Str × Value)} {m : Str → Option Value}, (∀ v, (x, v) ∉ binds) → bindC kindOf binds m x = m x
  | [], _, _ => rfl
  | (n, v) :: r, m, h => by
    unfold bindC
    rw [bindC_out fun w hw => h w (List.mem_cons_of_mem _ hw)]
    split
    · rfl
    · have : x ≠ n := by rintro rfl; exact h v List.mem_cons_self
      simp [this]
theorem bindL_get {kindOf : Str → Option NameKind} {x : Str} {v : Value} : ∀ {P : List Str} {vs : List Value} {i : Nat} {m : Str → Option Value}, P.Nodup → P[i]? = some x → vs[i]? = some v → kindOf x = some .local →
    bindL kindOf (P.zip vs) m x = some v
  | [], _, _, _, _, h, _, _ => by simp at h
  | _ :: _, [], _, _, _, _, h, _ => by simp at h
  | p :: P, w :: vs, 0, m, nd, h1, h2, hk => by
    simp at h1 h2; subst h1; subst h2
    show bindL kindOf ((p, w) :: P.zip vs) m p = _
    unfold bindL
    rw [bindL_out fun v hv => (List.nodup_cons.mp nd).1 (List.of_mem_zip hv).1, if_pos hk]
    simp
  | p :: P, w :: vs, i + 1, m, nd, h1, h2, hk => by
    show bindL kindOf ((p, w) :: P.zip vs) m x = _
    unfold bindL
    exact bindL_get (i := i) (List.nodup_cons.mp nd).2 (by simpa using h1) (by simpa using h2) hk
theorem bindC_get {kindOf : Str → Option NameKind} {x : Str} {v : Value} : ∀ {P : List Str} {vs : List Value} {i : Nat} {m : Str → Option Value}, P.Nodup → P[i]? = some x → vs[i]? = some v → kindOf x ≠ some .local →
    bindC kindOf (P.zip vs) m x = some v
  | [], _, _, _, _, h, _, _ => by simp at h
  | _ :: _, [], _, _, _, _, h, _ => by simp at h
  | p :: P, w :: vs, 0, m, nd, h1, h2, hk => by
    simp at h1 h2; subst h1; subst h2
    show bindC kindOf ((p, w) :: P.zip vs) m p = _
    unfold bindC
    rw [bindC_out fun v hv => (List.nodup_cons.mp nd).1 (List.of_mem_zip hv).1, if_neg hk]
    simp
  | p :: P, w :: vs, i + 1, m, nd, h1, h2, hk => by
    show bindC kindOf ((p, w) :: P.zip vs) m x = _
    unfold bindC
    exact bindC_get (i := i) (List.nodup_cons.mp nd).2 (by simpa using h1) (by simpa using h2) hk

/-- the names' values at the entry -/
def start (N : List Str) (vs : List V) : St := vs.map some ++ List.replicate (N.length - vs.length) none

/-- the context of a def's body, at its entry; an exception leaves the frame, then lies as CX says -/
def cxOf (CX : CXT) (P : Program) (w : World) (K : PySem.W.Frag) (mg : Str → Option Value) (base : Heap) (N : List Str) (qual : Str) (scope : Scope) (f : Addr) (cd : Value) (A : Around) (outer : List Env) (s : Shared) (H : Hp) (E : XK) : Cx where
  prog := P
  w := w
  K := K
  mg := mg
  base := base
  A := A.deeper (envOfC qual scope s.heap.objs.size f cd)
  N := N
  s₀ := s
  H₀ := H
  env := envOfC qual scope s.heap.objs.size f cd
  outer := outer
  stack := envOfC qual scope s.heap.objs.size f cd :: outer
  ex := []
  calm := true
  fn := fun _ => true
  pn := []
  xe := fun e s' => wpAny (model P w) (A.deeper (envOfC qual scope s.heap.objs.size f cd)) (leaving (envOfC qual scope s.heap.objs.size f cd) e) (fun _ s'' => CX outer H s E e s'') (fun e' s'' => CX outer H s E e' s'') s'

theorem cell_has {sc : Scope} {n : Nat} {x : Str} (h : sc.names.lookup x = some .cell) : ∃ c, (cellsFrom n sc.names []).lookup x = some c := by
  have q := PySem.W.cellsFrom_some sc.names n [] (.inl h)
  exact Option.isSome_iff_exists.mp q

theorem inv_start {CX : CXT} {P : Program} {w : World} {K : PySem.W.Frag} {mg : Str → Option Value} {base : Heap} {N ps : List Str} {qual : Str} {scope : Scope} {f : Addr} {cd : Value} {A : Around} {outer : List Env} {s s1 : Shared} {H : Hp} {E : XK} {us : List Value} {vs : List V}
    (S : FnScope N ps scope) (hd : A.handled = none) (e0 : Env0 P w K mg base A outer s H) (hl : vs.length = ps.length) (r : Vals vs us)
    (x : InCallC s s.heap.objs.size (bindL (envOfC qual scope s.heap.objs.size f cd).kindOf (ps.zip us) fun _ => none) (cellsFrom (s.heap.objs.size + 1) scope.names []) (bindC (envOfC qual scope s.heap.objs.size f cd).kindOf (ps.zip us) fun _ => none) s1) :
    Inv (cxOf CX P w K mg base N qual scope f cd A outer s H E) [] (start N vs) H s1 := by
  have hpl : ps.length ≤ N.length := by have := congrArg List.length S.pre; rw [List.length_take] at this; omega
  obtain ⟨h1, tk, rfl, hk⟩ := x.done
  have noA : ∀ b : Addr, b ∉ (cxOf CX P w K mg base N qual scope f cd A outer s H E).ex := fun b z => absurd (show b ∈ ([] : List Addr) from z) (by simp)
  refine ⟨⟨e0.mod, S.kind, rfl, rfl, Nat.le_refl _, fun y z c h1 h2 => ?_, fun y hy => ?_, fun y c _ h => ?_, fun _ => hd, Around.frames_deeper e0.frames, .inr ⟨rfl, rfl⟩, fun b z => absurd z (noA b), e0.bs, e0.bsz, fun b _ _ => noA b, fun b z => absurd z (noA b), e0.funs, e0.frf⟩,
    rfl, e0.bare, Un.kept hk, ⟨_, x.toInCall.ns, fun i y v h1 h2 h3 => ?_⟩, fun y c h => ⟨_, x.cell y c h⟩, e0.hok.fresh (Nat.le_refl _), fun y c h => ?_, fun p hp => absurd (show p ∈ ([] : List (Addr × Obj)) from hp) (by simp), e0.hok.kept hk, ?_⟩
  · exact name_of_addr x.apart (PySem.mem_of_lookup h1) (PySem.mem_of_lookup h2)
  · have hy : scope.names.lookup y = some .cell ∨ scope.names.lookup y = some .free := hy
    rcases hy with hy | hy
    · exact cell_has hy
    · exact absurd rfl (S.nofree _ (PySem.mem_of_lookup hy))
  · exact Nat.le_of_lt (x.above y c (PySem.mem_of_lookup h))
  · have hi : i < vs.length := by
      unfold start at h2
      by_cases hi : i < vs.length
      · exact hi
      · rw [List.getElem?_append_right (by simpa using hi)] at h2
        rw [List.getElem?_replicate] at h2
        split at h2 <;> cases h2
    have ha : vs[i]? = some v := by
      unfold start at h2
      rw [List.getElem?_append_left (by simpa using hi), List.getElem?_map] at h2
      cases e : vs[i]? with
      | none => rw [e] at h2; cases h2
      | some a => rw [e] at h2; cases h2; rfl
    obtain ⟨u, hu, rv⟩ := r.get ha
    have hp : ps[i]? = some y := by
      rw [← S.pre, List.getElem?_take_of_lt (by omega)]; exact h1
    have ndP : ps.Nodup := by rw [← S.pre]; exact S.nd.sublist (List.take_sublist _ _)
    refine ⟨u, rv, ?_⟩
    rcases S.par y (List.mem_of_getElem? hp) with k | k
    · exact .inl ⟨k, bindL_get ndP hp hu k⟩
    · obtain ⟨c, e⟩ := cell_has (n := s.heap.objs.size + 1) k
      refine .inr ⟨.inl k, c, e, ?_⟩
      have q := x.cell y c e
      rw [bindC_get ndP hp hu (by show scope.names.lookup y ≠ _; rw [k]; decide)] at q
      exact q
  · exact e0.hok.fresh (Nat.le_of_lt (x.above y c (PySem.mem_of_lookup h)))
  · unfold start
    show _ = N.length
    rw [List.length_append, List.length_map, List.length_replicate]
    omega

/-- THE RULE: a def (or a method) of the text, by its body. The body's reading t is chosen for each entry; it is run at the parameters' values -/
theorem fn_of {CX : CXT} {P : Program} {w : World} {K : PySem.W.Frag} {mg : Str → Option Value} {base : Heap} {k : Nat} {f : Addr} {name qual : Str} {params : Arguments} {body : List Stmt} {scope : Scope} {dV kV doc pm cdv ct oc : Value} {an od : Option Addr}
    {osl : Array (Option Value)} {N ps : List Str} {sp : Sp} (lk : K.lookup f = some ⟨oc, od, .func (PySem.W.fnOf name qual params body scope dV kV doc pm an cdv ct), osl⟩) (hcd : PySem.W.codeIn K cdv qual = true) (S : FnScope N ps scope)
    (len : ∀ vs H Q E, sp vs H Q E → vs.length = ps.length)
    (hbody : ∀ (A : Around) (outer : List Env) (s : Shared) (H : Hp) (vs : List V) (Q : VK) (E : XK), Room k (A.deeper (envOfC qual scope s.heap.objs.size f cdv)) → sp vs H Q E →
      ∃ t, PSs (cxOf CX P w K mg base N qual scope f cdv A outer s H E) body t ∧ t { nx := fun _ H' => Q .non H', rt := Q } (start N vs) H) :
    FnOk P w K mg base CX (k + 1) f (PySem.W.fnOf name qual params body scope dV kV doc pm an cdv ct) ps sp := by
  refine ⟨len, fun A outer s H args us vs Q E hr e0 hb r hsp => ?_⟩
  have hl := len _ _ _ _ hsp
  have KX : K.In s.heap := e0.mod.kin.keeps fun b o e => (e0.bs b o e).1
  have lim : s.heap.NoLimit := e0.mod.nolimit.keeps fun b o e => (e0.bs b o e).1
  have hkind : ∀ y ∈ ps.zip us, scope.names.lookup y.1 = some .local ∨ (scope.names.lookup y.1 = some .cell ∧ ((cellsFrom (s.heap.objs.size + 1) scope.names []).lookup y.1).isSome = true) := fun ⟨n, v⟩ hy => by
    rcases S.par n (List.of_mem_zip hy).1 with q | q
    · exact .inl q
    · exact .inr ⟨q, PySem.W.cellsFrom_some _ _ _ (.inl q)⟩
  refine codeAny_call_function hr.depth (KX _ _ lk) rfl S.co S.gen rfl (PySem.W.codeRec_of KX hcd) (hb _ _ _ _ ?_)
  refine wpAny_newFunctionEnv_cells S.kind hkind fun env he s1 x => ?_
  subst he
  refine ⟨lim.keeps x.toInCall.keep, codeAny_func ?_⟩
  obtain ⟨t, ht, hq⟩ := hbody A outer s H vs Q E (hr.deeper _) hsp
  have I : Inv (cxOf CX P w K mg base N qual scope f cdv A outer s H E) [] (start N vs) H s1 := inv_start S hr.hd e0 hl r x
  refine wpAny_mono (ht [] s1 (start N vs) H _ I hq) (fun fl s' hs => ?_) fun e s' hs => hs
  have fin : ∀ {σ' : St} {H' : Hp} {v : V} {u : Value}, Inv (cxOf CX P w K mg base N qual scope f cdv A outer s H E) [] σ' H' s' → RelV v u → Q v H' → CE outer P w H s Q u s' :=
    fun {σ' H' v u} J rv q => ⟨v, H', J.os, J.bare, J.base, J.hok, rv, q⟩
  cases fl with
  | ret u =>
    obtain ⟨v, σ', H', J, rv, q⟩ := hs
    exact fin J rv q
  | next =>
    obtain ⟨σ', H', J, q⟩ := hs
    exact fin (v := V.non) (u := Value.none) J rfl q
  | brk =>
    obtain ⟨_, _, _, q⟩ := hs
    exact False.elim q
  | cont =>
    obtain ⟨_, _, _, q⟩ := hs
    exact False.elim q
end L2

namespace L2
open PySem PySem.Spec PyProof.Rows
section
variable {X : Cx} {x : Str} {p pos : Pos} {e : Expr} {es : List Expr} {t : TA} {id T : String} {r : List V → Hp → VK → Prop}

def tCB (r : List V → Hp → VK → Prop) (t : TA) : TE := fun σ H Q => t σ H fun vs H1 => r vs H1 Q
/-- f(e, ..), f a built-in function -/
theorem pe_callB (hc : CallR X (.builtin id) r) (hg : Gl X x) (hm : X.mg x = none) (hv : bootBuiltins x = some (.builtin id)) (ha : PA X (e :: es) t) (hn : x ≠ "__name__" := by decide) (hdb : (x == ("__debug__" : Str)) = false := by decide)
    (he : starEach (e :: es) X.env = (false, eval e X.env) :: starEach es X.env := by rfl) (hpl : (backTo pos (starEach es X.env)).any (·.1) = false := by rfl) : PE X (.Call (.Name x p) (e :: es) [] pos) (tCB r t) := by
  intro pins s σ H Q I h
  refine wpAny_Call_Name_kw (ld_blt I hg hm hv ?_ hn hdb)
  exact PyProof.Rows.callWith_builtin1 (thn (ha pos pins s σ H _ I h) fun us s1 ⟨vs, H1, I1, r1, q1⟩ => hc pins s1 σ H1 vs us Q I1 r1 q1) he hpl
/-- T(e, ..), T a built-in type -/
theorem pe_callTy (hc : CallR X (.type T) r) (hg : Gl X x) (hm : X.mg x = none) (hv : bootBuiltins x = some (.type T)) (ha : PA X (e :: es) t) (hn : x ≠ "__name__" := by decide) (hdb : (x == ("__debug__" : Str)) = false := by decide)
    (he : starEach (e :: es) X.env = (false, eval e X.env) :: starEach es X.env := by rfl) (hpl : (backTo pos (starEach es X.env)).any (·.1) = false := by rfl) : PE X (.Call (.Name x p) (e :: es) [] pos) (tCB r t) := by
  intro pins s σ H Q I h
  refine wpAny_Call_Name_kw (ld_blt I hg hm hv ?_ hn hdb)
  exact PyProof.Rows.callWith_type1 (thn (ha pos pins s σ H _ I h) fun us s1 ⟨vs, H1, I1, r1, q1⟩ => hc pins s1 σ H1 vs us Q I1 r1 q1) he hpl
end
end L2

namespace HT
open PySem PyProof.Rows



section
open PySem.SeqAt
open PySem.AutoSeq1 (wpAny_loadPart')
open PySem.MeetsSeq PySem.MeetsSeq2 PySem.MeetsSeq3

end

section
variable {prog : Program} {w : World} {A : Around} {E : Value → Shared → Prop} {s : Shared}



/-! ### t[a:b], not the whole -/

end
end HT

namespace L2
open PySem PySem.Spec PyProof.Rows

/-! ### the parts of a slice -/
abbrev TO := St → Hp → (Option Int → Hp → Prop) → Prop
/-- a slice's part (left out, or an int) -/
def PO (X : Cx) (e : Option Expr) (t : TO) : Prop :=
  ∀ (pins : List (Addr × Obj)) (s : Shared) (σ : St) (H : Hp) (Q : Option Int → Hp → Prop), Inv X pins σ H s → t σ H Q →
    wpAny (model X.prog X.w) X.A (evalPart e X.env) (fun u s' => ∃ o H', Inv X pins σ H' s' ∧ IsPart u o ∧ Q o H') X.xe s

theorem intsAre_of {ns : List Int} : ∀ {us : List Value}, Vals (ns.map V.int) us → IntsAre us ns := by
  induction ns with
  | nil => intro us r; rw [List.map_nil] at r; cases r; exact .nil
  | cons n ns ih =>
    intro us r
    rw [List.map_cons] at r
    cases r with
    | cons r1 r2 =>
      obtain ⟨t, e⟩ := r1
      subst e
      exact .cons n t (ih r2)

section
variable {X : Cx} {e : Expr} {te : TE} {lo hi : Option Expr} {tl th : TO} {pos p2 : Pos}




/-! ### t < u, t + u -/
end
end L2

namespace L2
open PySem PySem.Spec PyProof.Rows

/-! ### places -/
/-- the place that an index of any sign means -/
def ixN (n : Nat) (i : Int) : Option Nat := if 0 ≤ i then (if i < n then some i.toNat else none) else if -(n : Int) ≤ i then some (i + n).toNat else none
def atI {α : Type} (xs : List α) (i : Int) : Option α := (ixN xs.length i).bind fun j => xs[j]?
theorem ixN_seq {n : Nat} {i : Int} {j : Nat} (h : ixN n i = some j) : seqIndex? i n = some j ∧ j < n ∧ -(n : Int) ≤ i ∧ i < n := by
  unfold ixN at h
  by_cases h0 : 0 ≤ i
  · rw [if_pos h0] at h
    by_cases h1 : i < n
    · rw [if_pos h1] at h
      have e : i.toNat = j := Option.some.inj h
      exact ⟨by rw [seqIndex_of h0 h1, e], by omega, by omega, h1⟩
    · rw [if_neg h1] at h; cases h
  · rw [if_neg h0] at h
    by_cases h1 : -(n : Int) ≤ i
    · rw [if_pos h1] at h
      have e : (i + n).toNat = j := Option.some.inj h
      exact ⟨by rw [seqIndex_neg (by omega) h1, e], by omega, h1, by omega⟩
    · rw [if_neg h1] at h; cases h
theorem atI_get {α : Type} {xs : List α} {i : Int} {v : α} (h : atI xs i = some v) : ∃ j, seqIndex? i xs.length = some j ∧ xs[j]? = some v ∧ j < xs.length ∧ -(xs.length : Int) ≤ i ∧ i < xs.length := by
  unfold atI at h
  cases e : ixN xs.length i with
  | none => rw [e] at h; cases h
  | some j =>
    rw [e] at h
    obtain ⟨h1, h2, h3, h4⟩ := ixN_seq e
    exact ⟨j, h1, h, h2, h3, h4⟩
theorem atI_nat {α : Type} {xs : List α} {j : Nat} {v : α} (h : xs[j]? = some v) : atI xs (j : Int) = some v := by
  have hj : j < xs.length := (List.getElem?_eq_some_iff.mp h).1
  have e : ixN xs.length (j : Int) = some j := by
    unfold ixN
    rw [if_pos (by omega), if_pos (by omega)]; simp
  unfold atI; rw [e]; exact h

/-! ### what may be subscripted -/
/-- what stands as an index of a plain subscript -/
def PlainIx (b : Expr) : Prop := ∀ o i, subscripted b false o i = operate [o, i] (getItem o i)
/-- a subscript by values -/
def IxR (X : Cx) (r : R2) : Prop :=
  ∀ (value slice : Expr) (pins : List (Addr × Obj)) (s : Shared) (σ : St) (H : Hp) (x y : V) (v u : Value) (Q : VK), Inv X pins σ H s → RelV x v → RelV y u → r x y H Q →
    subscripted slice false v u = operate [v, u] (getItem v u) → wpAny (model X.prog X.w) X.A (subscriptTail value slice v u) (EP X pins σ Q) X.xe s
/-- a call of a builtin's method by values: the receiver, the arguments -/
def MtR (X : Cx) (id : String) (r : V → List V → Hp → VK → Prop) : Prop :=
  ∀ (pins : List (Addr × Obj)) (s : Shared) (σ : St) (H : Hp) (x : V) (xs : List V) (v : Value) (us : List Value) (Q : VK), Inv X pins σ H s → RelV x v → Vals xs us → r x xs H Q →
    wpAny (model X.prog X.w) X.A (call (.builtin id) (v :: us)) (EP X pins σ Q) X.xe s
section
variable {X : Cx} {a b : Expr} {ta tb : TE} {pos : Pos}
/-- a[b] -/
theorem pe_ix {r : R2} (hr : IxR X r) (ha : PE X a ta) (hb : PE X b tb) (hs : PlainIx b) : PE X (.Subscript a b pos) (tOp r ta tb) := by
  intro pins s σ H Q I h
  exact Subscript_ (binT ha hb I h fun v u s2 x y H2 I2 rx ry q => hr a b pins s2 σ H2 x y v u Q I2 rx ry q (hs _ _))

def rIxL (K : PySem.W.Frag) : R2 := fun x y H Q => ∃ p xs i v, x = .ref p ∧ y = .int i ∧ SqL K H p xs ∧ atI xs i = some v ∧ Q v H
def rIxT (K : PySem.W.Frag) : R2 := fun x y H Q => ∃ p xs i v, x = .ref p ∧ y = .int i ∧ SqT K H p xs ∧ atI xs i = some v ∧ Q v H
theorem ix_list : IxR X (rIxL X.K) := by
  intro value slice pins s σ H x y v u Q I rx ry h hs
  obtain ⟨p, xs, i, z, rfl, rfl, hq, he, q⟩ := h
  cases rx
  obtain ⟨t, rfl⟩ := ry
  obtain ⟨its, r, pl, hz⟩ := I.list hq
  obtain ⟨j, h1, h2, h3, h4, h5⟩ := atI_get he
  obtain ⟨w, ew, rw'⟩ := r.get h2
  have hl := r.length
  have hn := line63
  have fin : EP X pins σ Q w s := ⟨z, H, I, rw', q⟩
  by_cases h0 : 0 ≤ i
  · have hj : i.toNat = j := by
      rw [seqIndex_of h0 h5] at h1
      exact Option.some.inj h1
    exact item_listR pl.isList h0 (by omega) (by rw [hj]; simpa using ew) fin hs
  · have hj : (i + (its.toArray.size : Int)).toNat = j := by
      rw [seqIndex_neg (by omega) h4] at h1
      rw [List.size_toArray, ← hl]
      exact Option.some.inj h1
    exact subscriptTail_builtinR (x := w) pl.isList.typeIs slot_list_getitem.lookup
      (wpAny_getItem_list_neg (Q := fun r s' => r = w ∧ EP X pins σ Q r s') pl.isList (by omega) (by rw [List.size_toArray] <;> omega) (by omega) (by rw [hj]; simpa using ew) ⟨rfl, fin⟩) hs
theorem ix_tup : IxR X (rIxT X.K) := by
  intro value slice pins s σ H x y v u Q I rx ry h hs
  obtain ⟨p, xs, i, z, rfl, rfl, hq, he, q⟩ := h
  cases rx
  obtain ⟨t, rfl⟩ := ry
  obtain ⟨its, r, pl, hz⟩ := I.tuple hq
  obtain ⟨j, h1, h2, h3, h4, h5⟩ := atI_get he
  obtain ⟨w, ew, rw'⟩ := r.get h2
  have hl := r.length
  have hn := line63
  have fin : EP X pins σ Q w s := ⟨z, H, I, rw', q⟩
  exact subscriptTail_builtinR (x := w) pl.typeIs slot_tuple_getitem.lookup
    (getItem_tuple (j := j) (Q := fun r s' => r = w ∧ EP X pins σ Q r s') pl (by omega) (by omega) (by rw [List.size_toArray, ← hl]; exact h1) (by simpa using ew) ⟨rfl, fin⟩) hs

/-! ### xs[i] = v, any sign -/

/-! ### slices -/

/-! ### in, not in: flat items -/

/-! ### len, list(x), tuple(x) of any list or tuple that is read -/
theorem call_len_seq : CallR X (.builtin "len") (fun xs H Q => ∃ p ys, xs = [.ref p] ∧ (SqL X.K H p ys ∨ SqT X.K H p ys) ∧ Q (.int ys.length) H) := by
  intro pins s σ H xs us Q I r h
  obtain ⟨p, ys, rfl, hq, q⟩ := h
  obtain ⟨u, rfl, rx⟩ := vals1 r
  cases rx
  have hn := line63
  rcases hq with hq | hq
  · obtain ⟨its, r', pl, hz⟩ := I.list hq
    have hlen := r'.length
    exact Calls.call_len_list pl.isList (by simp only [List.size_toArray] <;> omega) ⟨.int ys.length, H, I.tok _, ⟨s.toks + 1, by rw [List.size_toArray, hlen]⟩, q⟩
  · obtain ⟨its, r', pl, hz⟩ := I.tuple hq
    have hlen := r'.length
    exact len_tuple pl (by simp only [List.size_toArray] <;> omega) ⟨.int ys.length, H, I.tok _, ⟨s.toks + 1, by rw [List.size_toArray, hlen]⟩, q⟩
theorem call_list_of : CallR X (.type "list") (fun xs H Q => ∃ p ys, xs = [.ref p] ∧ (SqL X.K H p ys ∨ SqT X.K H p ys) ∧ ∀ l, H l = none → Q (.ref l) (upd H l (.lst ys))) := by
  intro pins s σ H xs us Q I r h
  obtain ⟨p, ys, rfl, hq, q⟩ := h
  obtain ⟨u, rfl, rx⟩ := vals1 r
  cases rx
  have fin : ∀ (its : List Value), Vals ys its → ys.length ≤ sizeLine → ∀ (h' : Heap) (c' : Nat), (∀ b o', s.heap.get? b = some o' → h'.get? b = some o') →
      h'.get? s.heap.objs.size = some { cls := .type "list", dict := none, data := .seq its.toArray c', slots := #[] } → EP X pins σ Q (.ref s.heap.objs.size) { s with heap := h' } := fun its r' hz h' c' kp e =>
    ⟨.ref s.heap.objs.size, _, I.laid (t' := s.toks) kp (Nat.le_refl _) (show ObjOk X.prog X.w _ h' _ (.lst ys) from ⟨hz, its, c', r', e⟩), rfl, q _ (I.hok.fresh (Nat.le_refl _))⟩
  rcases hq with hq | hq
  · obtain ⟨its, r', pl, hz⟩ := I.list hq
    have hlen := r'.length
    obtain ⟨o, ho, hc, n, hd⟩ := pl.isList
    exact call_list_seq p (.inl rfl) ho hc hd (fun h' c' kp e => fin its r' hz h' c' kp e) (by simp only [List.size_toArray] <;> omega)
  · obtain ⟨its, r', pl, hz⟩ := I.tuple hq
    have hlen := r'.length
    obtain ⟨o, ho, hc, n, hd⟩ := pl
    exact call_list_seq p (.inr rfl) ho hc hd (fun h' c' kp e => fin its r' hz h' c' kp e) (by simp only [List.size_toArray] <;> omega)
theorem call_tuple_of : CallR X (.type "tuple") (fun xs H Q => ∃ p ys, xs = [.ref p] ∧ ((SqL X.K H p ys ∧ ∀ l, H l = none → Q (.ref l) (upd H l (.tup ys))) ∨ (SqT X.K H p ys ∧ Q (.ref p) H))) := by
  intro pins s σ H xs us Q I r h
  obtain ⟨p, ys, rfl, h⟩ := h
  obtain ⟨u, rfl, rx⟩ := vals1 r
  cases rx
  rcases h with ⟨hq, q⟩ | ⟨hq, q⟩
  · obtain ⟨its, r', pl, hz⟩ := I.list hq
    have hlen := r'.length
    refine call_tuple_list pl.isList (fun h' kp => ?_) (by simp only [List.size_toArray] <;> omega)
    have I1 : Inv X pins σ H { s with heap := h' } := I.kept (t' := s.toks) kp
    have I2 : Inv X pins σ (upd H h'.objs.size (.tup ys)) { s with heap := h'.push { cls := .type "tuple", data := .seq its.toArray } } :=
      I1.laid (t' := s.toks) (fun b o e => Heap.get?_push_of_some _ e) (Nat.le_refl _) (show ObjOk X.prog X.w _ _ _ (.tup ys) from ⟨hz, its, r', IsTup.new _ _⟩)
    exact ⟨.ref h'.objs.size, _, I2, rfl, q _ (I1.hok.fresh (Nat.le_refl _))⟩
  · obtain ⟨its, r', pl, hz⟩ := I.tuple hq
    exact call_tuple_same pl ⟨.ref p, H, I, rfl, q⟩

/-! ### the call of a builtin's method: o.m(..) -/
/-- the value is of that builtin type -/
def tyV (K : PySem.W.Frag) (T : String) (x : V) (H : Hp) : Prop := match x with
  | .str _ => T = "str"
  | .int _ => T = "int"
  | .ref p => (T = "list" ∧ ∃ xs, SqL K H p xs) ∨ (T = "tuple" ∧ ∃ o, K.lookup p = some o ∧ o.cls = .type "tuple" ∧ o.dict = none) ∨
      (T = "dict" ∧ ((∃ kvs, H p = some (.dK kvs)) ∨ ∃ kvs, H p = some (.dT kvs))) ∨ (T = "set" ∧ ∃ S n, H p = some (.set S n))
  | _ => False
theorem tyV_is {pins : List (Addr × Obj)} {σ : St} {H : Hp} {s : Shared} {T : String} {x : V} {v : Value} (I : Inv X pins σ H s) (r : RelV x v) (ty : tyV X.K T x H) :
    s.TypeIs v T ∧ ∀ a, v = .ref a → ∃ ob, s.heap.get? a = some ob ∧ ob.dict = none := by
  cases x with
  | str z =>
    obtain ⟨t, rfl⟩ := r
    cases (show T = "str" from ty)
    exact ⟨typeIs_str s z t, fun _ e => nomatch e⟩
  | int i =>
    obtain ⟨t, rfl⟩ := r
    cases (show T = "int" from ty)
    exact ⟨typeIs_int s i t, fun _ e => nomatch e⟩
  | ref p =>
    cases r
    rcases ty with ⟨rfl, xs, hq⟩ | ⟨rfl, o, hk, hc, hd⟩ | ⟨rfl, hk⟩ | ⟨rfl, S, n, hk⟩
    · obtain ⟨its, _, pl, _⟩ := I.list hq
      refine ⟨pl.isList.typeIs, fun a e => ?_⟩
      cases e
      obtain ⟨o, n, e, c, hd, _⟩ := pl
      exact ⟨o, e, hd⟩
    · refine ⟨⟨o, I.kIn p o hk, hc⟩, fun a e => ?_⟩
      cases e
      exact ⟨o, I.kIn _ o hk, hd⟩
    · have z : ∃ o, s.heap.get? p = some o ∧ o.ExactDict := by
        rcases hk with ⟨kvs, hk⟩ | ⟨kvs, hk⟩
        · obtain ⟨_, _, _, _, o, _, _, e, ex, _⟩ := I.hok p _ hk
          exact ⟨o, e, ex⟩
        · obtain ⟨_, _, _, _, o, _, _, e, ex, _⟩ := I.hok p _ hk
          exact ⟨o, e, ex⟩
      obtain ⟨o, e, ex⟩ := z
      refine ⟨⟨o, e, ex.1⟩, fun a e2 => ?_⟩
      cases e2
      exact ⟨o, e, ex.2.1⟩
    · obtain ⟨o, _, _, _, e, ex, _⟩ := I.hok p _ hk
      refine ⟨⟨o, e, ex.1⟩, fun a e2 => ?_⟩
      cases e2
      exact ⟨o, e, ex.2.1⟩
  | _ => exact False.elim ty
def tBM0 (K : PySem.W.Frag) (T : String) (r : V → List V → Hp → VK → Prop) (to : TE) : TE := fun σ H Q => to σ H fun x H1 => tyV K T x H1 ∧ r x [] H1 Q
def tBM (K : PySem.W.Frag) (T : String) (r : V → List V → Hp → VK → Prop) (to : TE) (t : TA) : TE := fun σ H Q => to σ H fun x H1 => tyV K T x H1 ∧ t σ H1 fun xs H2 => r x xs H2 Q
variable {o e : Expr} {es : List Expr} {to : TE} {t : TA} {name : Str} {apos cpos : Pos} {T id : String} {r : V → List V → Hp → VK → Prop}
theorem pe_bm0 (pa : PlainAttrs T) (slot : Slot T name id) (hty : typeOf (.builtin id) = pure (.type "method_descriptor")) (hm : MtR X id r) (ho : PE X o to)
    (hbase : attributeBase o name X.env (eval o X.env) = eval o X.env := by rfl) (hline : (apos.endLine == cpos.line) = true := by rfl) : PE X (.Call (.Attribute o name apos) [] [] cpos) (tBM0 X.K T r to) := by
  intro pins s σ H Q I h
  refine wpAny_Call_method0_late hbase hline (thn (ho pins s σ H _ I h) fun v s1 ⟨x, H1, I1, r1, ty, q1⟩ => ?_)
  obtain ⟨h1, h2⟩ := tyV_is I1 r1 ty
  exact ⟨T, id, pa, slot, hty, h1, h2, Calls.callWith_builtin rfl (PySem.evalArgs_none (hm pins s1 σ H1 x [] v [] Q I1 r1 .nil q1))⟩
theorem pe_bm (pa : PlainAttrs T) (slot : Slot T name id) (hty : typeOf (.builtin id) = pure (.type "method_descriptor")) (hm : MtR X id r) (ho : PE X o to) (ha : PA X (e :: es) t)
    (hbase : attributeBase o name X.env (eval o X.env) = eval o X.env := by rfl)
    (hfew : ((backTo cpos (starEach (e :: es) X.env)).all (fun x => !x.1) && (backToKw cpos (keywordEach [] X.env)).all (fun x => x.1.isSome)
      && decide ((e :: es).length + ([] : List Keyword).length + (if ([] : List Keyword).isEmpty then 0 else 1) < 30)) = true := by rfl)
    (hline : (apos.endLine == cpos.line) = true := by rfl) (hs : starEach (e :: es) X.env = (false, eval e X.env) :: starEach es X.env := by rfl) (hplain : (backTo cpos (starEach es X.env)).any (·.1) = false := by rfl) :
    PE X (.Call (.Attribute o name apos) (e :: es) [] cpos) (tBM X.K T r to t) := by
  intro pins s σ H Q I h
  refine wpAny_Call_method_late hbase hfew hline rfl (thn (ho pins s σ H _ I h) fun v s1 ⟨x, H1, I1, r1, ty, q1⟩ => ?_)
  obtain ⟨h1, h2⟩ := tyV_is I1 r1 ty
  refine ⟨T, id, pa, slot, hty, h1, h2, ?_⟩
  have hA := ha cpos pins s1 σ H1 _ I1 q1
  rw [hs] at hA ⊢
  refine Calls.callWith_builtin (by show (false || (backTo cpos (starEach es X.env)).any (·.1)) = false; rw [hplain] <;> rfl) (Calls.evalArgs_plain ?_)
  exact thn hA fun us s2 ⟨vs, H2, I2, r2, q2⟩ => hm pins s2 σ H2 x vs v us Q I2 r1 r2 q2
/- xs.append(e), list.index on a module's tuple .. are MtR facts of 06m -/
end
end L2

namespace L2
open PySem PySem.Spec PyProof.Rows

def MtM (X : Cx) (id : String) (r : V → List V → Hp → VK → Prop) : Prop :=
  ∀ (pins : List (Addr × Obj)) (s : Shared) (σ : St) (H : Hp) (x : V) (xs : List V) (v : Value) (us : List Value) (Q : VK), Inv X pins σ H s → RelV x v → Vals xs us → r x xs H Q →
    wpAny (model X.prog X.w) X.A (call (.builtin id) (v :: us)) (EP X pins σ Q) X.xe s

/-! ### lists of values -/
theorem Vals.one : ∀ {x : V} {us : List Value}, Vals [x] us → ∃ u, us = [u] ∧ RelV x u
  | _, _, .cons r .nil => ⟨_, rfl, r⟩
theorem Vals.two : ∀ {x y : V} {us : List Value}, Vals [x, y] us → ∃ u v, us = [u, v] ∧ RelV x u ∧ RelV y v
  | _, _, _, .cons r (.cons q .nil) => ⟨_, _, rfl, r, q⟩

section
variable {X : Cx} {pins : List (Addr × Obj)} {σ : St} {H : Hp} {s : Shared} {l b : Addr} {xs ys zs : List V}

/-! ### the two steps: a tracked list is rewritten, a new list is laid -/
theorem Inv.lset {its its' : List Value} {n : Nat} {f : Array Value → Array Value} {t' : Nat} (I : Inv X pins σ H s) (hH : H l = some (.lst xs))
    (e : s.heap.get? l = some { cls := .type "list", data := .seq its.toArray n }) (hf : f its.toArray = its'.toArray) (hv : Vals ys its') (hz : ys.length ≤ sizeLine) :
    Inv X pins σ (upd H l (.lst ys)) { s with heap := s.heap.update l (Obj.mapSeq f), toks := t' } := by
  have q := PySem.IsL.update e f
  rw [hf] at q
  refine I.write (x := l) (e := l) (by rw [hH]; exact trivial) (.inl rfl) (fun b' u hb hu => (Heap.get?_update_other s.heap (Obj.mapSeq f) (Ne.symm hb)).trans hu) ⟨_, q⟩ ?_
  exact ⟨hz, its', _, hv, q⟩
theorem Inv.lnew {its : List Value} {t' : Nat} (I : Inv X pins σ H s) (hv : Vals ys its) (hz : ys.length ≤ sizeLine) :
    Inv X pins σ (upd H s.heap.objs.size (.lst ys)) { s with heap := s.heap.push { cls := .type "list", data := .seq its.toArray }, toks := t' } :=
  I.laid (fun _ _ q => Heap.get?_push_of_some _ q) (Nat.le_refl _) ⟨hz, its, 0, hv, Heap.get?_push_size _ rfl⟩
theorem Inv.fresh (I : Inv X pins σ H s) : H s.heap.objs.size = none := I.hok.fresh (Nat.le_refl _)
theorem Inv.lstM (I : Inv X pins σ H s) (hH : H l = some (.lst xs)) : xs.length ≤ sizeLine ∧ ∃ (its : List Value) (n : Nat), Vals xs its ∧ xs.length = its.length ∧ s.heap.get? l = some { cls := .type "list", data := .seq its.toArray n } := by
  obtain ⟨z, its, n, r, e⟩ := I.hok l _ hH
  exact ⟨z, its, n, r, r.length, e⟩

theorem notLongL {n : Nat} (h : n ≤ sizeLine) : Builtin.List.listTooLong n = false := by
  unfold Builtin.List.listTooLong
  exact decide_eq_false (by omega)
end

section
variable {X : Cx}

/-! ### methods -/
def rAppend : V → List V → Hp → VK → Prop := fun x vs H Q => ∃ l xs y, x = .ref l ∧ vs = [y] ∧ H l = some (.lst xs) ∧ xs.length < sizeLine ∧ Q .non (upd H l (.lst (xs ++ [y])))
theorem mt_append : MtM X "list.append" rAppend := by
  intro pins s σ H x vs v us Q I rx rv h
  obtain ⟨l, xs, y, rfl, rfl, hH, hz, q⟩ := h
  cases rx
  obtain ⟨u, rfl, ru⟩ := rv.one
  obtain ⟨z, its, n, r, hl, e⟩ := I.lstM hH
  refine call_meets F.slot_list_append ⟨_, e, rfl⟩ F.entry_list_append (F.args_list_append_2 _ _) (PySem.list_append l its.toArray n u (by rw [List.size_toArray]; omega)) ⟨e, ?_⟩
  refine ⟨.non, _, I.lset (its' := its ++ [u]) hH e (by simp) (r.append (.cons ru .nil)) ?_, rfl, q⟩
  rw [List.length_append, List.length_singleton]
  omega

def rExtend : V → List V → Hp → VK → Prop := fun x vs H Q => ∃ l b xs zs, x = .ref l ∧ vs = [.ref b] ∧ H l = some (.lst xs) ∧ H b = some (.lst zs) ∧ xs.length + zs.length ≤ sizeLine ∧ Q .non (upd H l (.lst (xs ++ zs)))
theorem mt_extend : MtM X "list.extend" rExtend := by
  intro pins s σ H x vs v us Q I rx rv h
  obtain ⟨l, b, xs, zs, rfl, rfl, hH, hB, hz, q⟩ := h
  cases rx
  obtain ⟨u, rfl, ru⟩ := rv.one
  cases ru
  obtain ⟨z, its, n, r, hl, e⟩ := I.lstM hH
  obtain ⟨z2, its2, n2, r2, hl2, e2⟩ := I.lstM hB
  have hsz : its.toArray.size + its2.toArray.size ≤ sizeLine := by rw [List.size_toArray, List.size_toArray]; omega
  have hlong : ¬ (!its.toArray.isEmpty && Builtin.List.listTooLong (its.toArray.size + its2.toArray.size)) = true := by
    rw [notLongL hsz, Bool.and_false]
    exact Bool.false_ne_true
  refine call_meets F.slot_list_extend ⟨_, e, rfl⟩ F.entry_list_extend (F.args_list_extend_2 _ _)
    (AutoSeq1.list_extend_list_list_0 l its.toArray n b its2.toArray n2 hlong (by rw [List.size_toArray]; omega) (by omega)) ⟨e, e2, ?_⟩
  refine ⟨.non, _, I.lset (its' := its ++ its2) hH e (by simp) (r.append r2) ?_, rfl, q⟩
  rw [List.length_append]
  omega





/-! ### list + list, list += list, list * int -/
theorem len_rep {α : Type} (xs : List α) (k : Nat) : (List.replicate k xs).flatten.length = k * xs.length := by
  induction k with
  | zero => simp
  | succ k ih => rw [List.replicate_succ, List.flatten_cons, List.length_append, ih, Nat.succ_mul, Nat.add_comm]

/-! ### del xs[i] -/
end

/-! ### xs[a:b] = ys -/
section
variable {prog : Program} {w : World} {A : Around} {E : Value → Shared → Prop} {s : Shared}
end

section
variable {X : Cx}
end
end L2

namespace L2
open PySem PySem.Spec PyProof.Rows

/-! ### lists of pairs as tables -/
section
variable {κ : Type} [DecidableEq κ]
def valV (kvs : List (κ × V)) (k : κ) : Option V := (kvs.find? fun kv => decide (kv.1 = k)).map (·.2)
/-- in its place, or at the end -/
def putK (kvs : List (κ × V)) (k : κ) (v : V) : List (κ × V) :=
  if (kvs.any fun kv => decide (kv.1 = k)) = true then kvs.map (fun kv => if kv.1 = k then (kv.1, v) else kv) else kvs ++ [(k, v)]

theorem valV_pos {p : κ × V} {r : List (κ × V)} {k : κ} (e : p.1 = k) : valV (p :: r) k = some p.2 := by simp [valV, List.find?_cons, e]
theorem valV_neg {p : κ × V} {r : List (κ × V)} {k : κ} (e : ¬ p.1 = k) : valV (p :: r) k = valV r k := by simp [valV, List.find?_cons, e]
theorem valV_any (k : κ) : ∀ kvs : List (κ × V), (kvs.any fun kv => decide (kv.1 = k)) = (valV kvs k).isSome
  | [] => rfl
  | p :: r => by
    rw [List.any_cons]
    by_cases e : p.1 = k
    · simp only [valV_pos e, decide_eq_true e, Bool.true_or, Option.isSome_some]
    · rw [valV_neg e, decide_eq_false e, Bool.false_or]; exact valV_any k r
theorem length_putK (kvs : List (κ × V)) (k : κ) (v : V) : (putK kvs k v).length ≤ kvs.length + 1 := by
  unfold putK
  split
  · rw [List.length_map]; omega
  · rw [List.length_append, List.length_cons, List.length_nil]; omega
theorem putK_new {kvs : List (κ × V)} {k : κ} (v : V) (h : valV kvs k = none) : putK kvs k v = kvs ++ [(k, v)] := by
  unfold putK
  rw [valV_any, h]
  exact if_neg (by decide)

theorem RelO.isSome_eq {o : Option V} {u : Option Value} (r : RelO o u) : o.isSome = u.isSome := by
  cases o with
  | none => cases u with
    | none => rfl
    | some _ => exact (show False from r).elim
  | some _ => cases u with
    | none => exact (show False from r).elim
    | some _ => rfl
theorem RelO.getD {o : Option V} {u : Option Value} {d : V} {d' : Value} (r : RelO o u) (rd : RelV d d') : RelV (o.getD d) (u.getD d') := by
  cases o with
  | none => cases u with
    | none => exact rd
    | some _ => exact (show False from r).elim
  | some _ => cases u with
    | none => exact (show False from r).elim
    | some _ => exact r

/-- raw tables of the same keys -/
theorem KV.val {kvs : List (κ × V)} {vs : List (κ × Value)} (r : KV kvs vs) (k : κ) : RelO (valV kvs k) (valueAt vs k) := by
  unfold KV at r
  induction r with
  | nil => exact True.intro
  | @cons p q ps qs h t ih =>
    obtain ⟨h1, h2⟩ := h
    by_cases e : p.1 = k
    · have e' : q.1 = k := h1.symm.trans e
      have b : valueAt (q :: qs) k = some q.2 := by simp [valueAt, List.find?_cons, e']
      rw [valV_pos e, b]; exact h2
    · have e' : ¬ q.1 = k := fun z => e (h1.trans z)
      have b : valueAt (q :: qs) k = valueAt qs k := by simp [valueAt, List.find?_cons, e']
      rw [valV_neg e, b]; exact ih
theorem KV.any {kvs : List (κ × V)} {vs : List (κ × Value)} (r : KV kvs vs) (k : κ) : (kvs.any fun kv => decide (kv.1 = k)) = vs.any fun kv => decide (kv.1 = k) := by
  unfold KV at r
  induction r with
  | nil => rfl
  | cons h t ih => rw [List.any_cons, List.any_cons, ih, h.1]
theorem KV.repl {kvs : List (κ × V)} {vs : List (κ × Value)} (r : KV kvs vs) (k : κ) {y : V} {u : Value} (ry : RelV y u) :
    KV (kvs.map fun kv => if kv.1 = k then (kv.1, y) else kv) (vs.map fun kv => if kv.1 = k then (kv.1, u) else kv) := by
  unfold KV at r ⊢
  induction r with
  | nil => exact .nil
  | @cons p q ps qs h t ih =>
    rw [List.map_cons, List.map_cons]
    refine .cons ?_ ih
    obtain ⟨h1, h2⟩ := h
    by_cases e : p.1 = k
    · rw [if_pos e, if_pos (h1.symm.trans e)]; exact ⟨h1, ry⟩
    · rw [if_neg e, if_neg (fun z => e (h1.trans z))]; exact ⟨h1, h2⟩
theorem KV.put {kvs : List (κ × V)} {vs : List (κ × Value)} (r : KV kvs vs) (k : κ) {y : V} {u : Value} (ry : RelV y u) : KV (putK kvs k y) (stored vs k u) := by
  unfold putK stored
  rw [r.any k]
  by_cases e : (vs.any fun kv => decide (kv.1 = k)) = true
  · rw [if_pos e, if_pos e]; exact r.repl k ry
  · rw [if_neg e, if_neg e]; exact Paired.snoc r ⟨rfl, ry⟩
theorem KV.keys {kvs : List (κ × V)} {vs : List (κ × Value)} (r : KV kvs vs) : kvs.map (·.1) = vs.map (·.1) := by
  unfold KV at r
  induction r with
  | nil => rfl
  | cons h t ih => rw [List.map_cons, List.map_cons, ih, h.1]
theorem KV.length {kvs : List (κ × V)} {vs : List (κ × Value)} (r : KV kvs vs) : kvs.length = vs.length := Paired.length r
end


/-! ### a tracked dict, its keys ints and texts or tuples of these -/
theorem kV_is {P : Program} {w : World} {k : Key} {u : Value} (r : RelV (kV k) u) : (mixKind P w).is k u = true := by
  cases k with
  | inl i => obtain ⟨t, e⟩ := (show ∃ t, u = Value.int i t from r); subst e; exact mixKind_int P w i t
  | inr x => obtain ⟨t, e⟩ := (show ∃ t, u = Value.str x t from r); subst e; exact mixKind_str P w x t
theorem items_are {P : Program} {w : World} : ∀ {ks : List Key} {us : List Value}, Vals (ks.map kV) us → ItemsAre (mixKind P w) ks us
  | [], _, r => by rw [List.map_nil] at r; cases r; exact .nil
  | k :: ks, _, r => by
    rw [List.map_cons] at r
    cases r with
    | cons h t => exact .cons (kV_is h) (items_are t)

/-- raw entries of a dict with tuple keys -/
abbrev KT (H : Hp) : List (List Key × V) → List (List Key × Addr × Value) → Prop := Paired fun p q => p.1 = q.1 ∧ H q.2.1 = some (.tup (p.1.map kV)) ∧ RelV p.2 q.2.2
theorem KT.val {H : Hp} {kvs : List (List Key × V)} {xs : List (List Key × Addr × Value)} (r : KT H kvs xs) (k : List Key) : RelO (valV kvs k) ((atKey xs k).map (·.2)) := by
  induction r with
  | nil => exact True.intro
  | @cons p q ps qs h t ih =>
    obtain ⟨h1, _, h2⟩ := h
    by_cases e : p.1 = k
    · have e' : q.1 = k := h1.symm.trans e
      have b : atKey (q :: qs) k = some q.2 := by simp [atKey, List.find?_cons, e']
      rw [valV_pos e, b]; exact h2
    · have e' : ¬ q.1 = k := fun z => e (h1.trans z)
      have b : atKey (q :: qs) k = atKey qs k := by simp [atKey, List.find?_cons, e']
      rw [valV_neg e, b]; exact ih
theorem KT.repl {H : Hp} {kvs : List (List Key × V)} {xs : List (List Key × Addr × Value)} (r : KT H kvs xs) (k : List Key) {y : V} {u : Value} (ry : RelV y u) :
    KT H (kvs.map fun kv => if kv.1 = k then (kv.1, y) else kv) (xs.map (putAt k u)) := by
  induction r with
  | nil => exact .nil
  | @cons p q ps qs h t ih =>
    rw [List.map_cons, List.map_cons]
    refine .cons ?_ ih
    obtain ⟨h1, h2, h3⟩ := h
    unfold putAt
    by_cases e : p.1 = k
    · rw [if_pos e, if_pos (h1.symm.trans e)]; exact ⟨h1, h2, ry⟩
    · rw [if_neg e, if_neg (fun z => e (h1.trans z))]; exact ⟨h1, h2, h3⟩
theorem KT.put {H : Hp} {kvs : List (List Key × V)} {xs : List (List Key × Addr × Value)} (r : KT H kvs xs) (k : List Key) {b : Addr} {y : V} {u : Value} (hb : H b = some (.tup (k.map kV))) (ry : RelV y u) :
    KT H (putK kvs k y) (storedH xs k b u) := by
  have e : (kvs.any fun kv => decide (kv.1 = k)) = (atKey xs k).isSome := by
    rw [valV_any, (r.val k).isSome_eq, Option.isSome_map]
  unfold putK storedH
  rw [e]
  by_cases q : (atKey xs k).isSome = true
  · rw [if_pos q, if_pos q]; exact r.repl k ry
  · rw [if_neg q, if_neg q]; exact Paired.snoc r ⟨rfl, hb, ry⟩
theorem KT.keeps {H H' : Hp} {kvs : List (List Key × V)} {xs : List (List Key × Addr × Value)} (r : KT H kvs xs) (ht : ∀ b ys, H b = some (.tup ys) → H' b = some (.tup ys)) : KT H' kvs xs :=
  Paired.mapP r fun _ _ z => ⟨z.1, ht _ _ z.2.1, z.2.2⟩

section
variable {P : Program} {w : World} {H : Hp} {h : Heap} {a : Addr}
theorem rd_of {u : HO} (ok : HOk P w H h) (e : Rd H a u) : ObjOk P w H h a u := e.ok ok
theorem dk_rd {kvs : List (Key × V)} (ok : HOk P w H h) (e : Rd H a (.dK kvs)) : kvs.length ≤ sizeLine ∧ (a == sysModules) = false ∧ ∃ vs, KV kvs vs ∧ h.DictOf (mixKind P w) a vs :=
  show ObjOk P w H h a (.dK kvs) from rd_of ok e
theorem dk_of {kvs : List (Key × V)} (ok : HOk P w H h) (e : H a = some (.dK kvs)) : kvs.length ≤ sizeLine ∧ (a == sysModules) = false ∧ ∃ vs, KV kvs vs ∧ h.DictOf (mixKind P w) a vs := dk_rd ok (.inl e)
/-- a tracked tuple of ints and texts is a key -/
theorem key_of {ks : List Key} (ok : HOk P w H h) (e : H a = some (.tup (ks.map kV))) : (tupleKind (mixKind P w)).is h ks a := by
  obtain ⟨_, its, r, o, h1, h2, n, h3⟩ := (show ObjOk P w H h a (.tup (ks.map kV)) from ok a _ e)
  exact ⟨o, its.toArray, n, h1, h2, h3, by simpa using items_are r⟩
theorem dt_rd {kvs : List (List Key × V)} (ok : HOk P w H h) (e : Rd H a (.dT kvs)) : kvs.length ≤ sizeLine ∧ (a == sysModules) = false ∧
    ∃ xs, KT H kvs xs ∧ h.DictOfH (tupleKind (mixKind P w)) a xs := by
  obtain ⟨z, y, xs, r, o, es, ep, h1, h2, h3, h4, h5⟩ := (show ObjOk P w H h a (.dT kvs) from rd_of ok e)
  refine ⟨z, y, xs, r, o, es, ep, h1, h2, h3, h4, fun x hx => ?_, h5⟩
  have all : ∀ {l : List (List Key × V)} {m : List (List Key × Addr × Value)}, KT H l m → ∀ x ∈ m, (tupleKind (mixKind P w)).is h x.1 x.2.1 := by
    intro l m q
    induction q with
    | nil => intro x hx; exact nomatch hx
    | @cons p q ps qs hq t ih =>
      intro x hx
      rcases List.mem_cons.mp hx with e | hx
      · subst e
        exact key_of ok (by rw [← hq.1]; exact hq.2.1)
      · exact ih x hx
  exact all r x hx
theorem dt_of {kvs : List (List Key × V)} (ok : HOk P w H h) (e : H a = some (.dT kvs)) : kvs.length ≤ sizeLine ∧ (a == sysModules) = false ∧
    ∃ xs, KT H kvs xs ∧ h.DictOfH (tupleKind (mixKind P w)) a xs := dt_rd ok (.inl e)
end

/-- what the dict at a holds at the key y -/
def DGet (H : Hp) (a : Addr) (y : V) (r : Option V) : Prop :=
  (∃ kvs k, Rd H a (.dK kvs) ∧ y = kV k ∧ r = valV kvs k) ∨ ∃ kvs k b, Rd H a (.dT kvs) ∧ y = .ref b ∧ H b = some (.tup (k.map kV)) ∧ r = valV kvs k
/-- the heap behind a[y] = v -/
def DPut (H : Hp) (a : Addr) (y v : V) (H' : Hp) : Prop :=
  (∃ kvs k, H a = some (.dK kvs) ∧ y = kV k ∧ kvs.length < sizeLine ∧ H' = upd H a (.dK (putK kvs k v))) ∨
  ∃ kvs k b, H a = some (.dT kvs) ∧ y = .ref b ∧ H b = some (.tup (k.map kV)) ∧ kvs.length < sizeLine ∧ H' = upd H a (.dT (putK kvs k v))
theorem DGet.k {H : Hp} {a : Addr} {kvs : List (Key × V)} {k : Key} (e : H a = some (.dK kvs)) : DGet H a (kV k) (valV kvs k) := .inl ⟨kvs, k, .inl e, rfl, rfl⟩
theorem DPut.k {H : Hp} {a : Addr} {kvs : List (Key × V)} {k : Key} {v : V} (e : H a = some (.dK kvs)) (hl : kvs.length < sizeLine) : DPut H a (kV k) v (upd H a (.dK (putK kvs k v))) := .inl ⟨kvs, k, e, rfl, hl, rfl⟩


section
variable {X : Cx} {pins : List (Addr × Obj)} {σ : St} {H : Hp} {s : Shared} {a : Addr} {y v : V} {u r : Value} {o : Option V} {A : Around} {E : Value → Shared → Prop}

theorem Inv.big (I : Inv X pins σ H s) : sysModules < s.heap.objs.size := by
  have h : mainGlobals < s.heap.objs.size := (I.mod.glob.keeps I.bk).lt
  exact Nat.lt_trans (by decide) h

/-- d[y], there -/
theorem d_getItem {Q : Value → Shared → Prop} (hu : A.units + 1 < cLine) (I : Inv X pins σ H s) (g : DGet H a y (some v)) (ry : RelV y u) (h : ∀ w' s', Inv X pins σ H s' → RelV v w' → Q w' s') :
    wpAny (model X.prog X.w) A (getItem (.ref a) u) Q E s := by
  rcases g with ⟨kvs, k, e, ey, l⟩ | ⟨kvs, k, b, e, ey, eb, l⟩
  · subst ey
    obtain ⟨z, hd, vs, rel, dd⟩ := dk_rd I.hok e
    obtain ⟨w', hw, rw'⟩ := RelO.some_of (v := v) (o := valueAt vs k) (by rw [l]; exact rel.val k)
    exact wpAny_getItem_of (kV_is ry) dd.mapOf hw (h w' _ (I.tok _) rw')
  · subst ey
    cases (show u = Value.ref b from ry)
    obtain ⟨z, hd, xs, rel, dd⟩ := dt_rd I.hok e
    obtain ⟨w', hw, rw'⟩ := RelO.some_of (v := v) (o := (atKey xs k).map (·.2)) (by rw [l]; exact rel.val k)
    obtain ⟨p, hp, hp2⟩ := Option.map_eq_some_iff.mp hw
    refine wpAny_getItem_heap (tupleKind_room_in1 hu) (key_of I.hok eb) dd hp ?_
    rw [hp2]
    exact h w' _ (I.tok _) rw'
/-- a dict's object is replaced -/
theorem d_write {h' : Heap} {t' : Nat} {ob : HO} (I : Inv X pins σ H s) (mu : Mut (H a)) (hs : Heap.SameBut a s.heap h') (he : ∃ q, h'.get? a = some q) (new : ObjOk X.prog X.w (upd H a ob) h' a ob) :
    Inv X pins σ (upd H a ob) { s with heap := h', toks := t' } :=
  I.write (x := a) (e := a) mu (.inl rfl) (fun b q hb z => (hs.2 b hb).trans z) he new
theorem dk_new {P : Program} {w : World} {H' : Hp} {h' : Heap} {kvs : List (Key × V)} {vs : List (Key × Value)} (z : kvs.length ≤ sizeLine) (hd : (a == sysModules) = false) (rel : KV kvs vs) (dd : h'.DictOf (mixKind P w) a vs) :
    ObjOk P w H' h' a (.dK kvs) := ⟨z, hd, vs, rel, dd⟩
/-- d[y] = v -/
theorem d_setItem {H' : Hp} {Q : Unit → Shared → Prop} (hu : A.units + 1 < cLine) (I : Inv X pins σ H s) (g : DPut H a y v H') (ry : RelV y u) (rv : RelV v r) (h : ∀ s', Inv X pins σ H' s' → Q () s') :
    wpAny (model X.prog X.w) A (setItem (.ref a) u r) Q E s := by
  rcases g with ⟨kvs, k, e, ey, l, eH⟩ | ⟨kvs, k, b, e, ey, eb, l, eH⟩
  · subst ey eH
    obtain ⟨z, hd, vs, rel, dd⟩ := dk_of I.hok e
    have hz : vs.length ≤ sizeLine := by rw [← rel.length]; exact z
    have hl : (putK kvs k v).length ≤ sizeLine := by have := length_putK kvs k v; omega
    refine wpAny_setItem_pairs (hsz := hz) (kV_is ry) dd fun h' dd' hs => h _ ?_
    have he : ∃ q, h'.get? a = some q := let ⟨q, _, _, hq, _⟩ := dd'; ⟨q, hq⟩
    exact d_write I (by rw [e]; exact True.intro) hs he (dk_new hl hd (rel.put k rv) dd')
  · subst ey eH
    cases (show u = Value.ref b from ry)
    obtain ⟨z, hd, xs, rel, dd⟩ := dt_of I.hok e
    have hz : xs.length ≤ sizeLine := by rw [← Paired.length rel]; exact z
    have hl : (putK kvs k v).length ≤ sizeLine := by have := length_putK kvs k v; omega
    refine wpAny_setItem_heap (hsz := hz) (tupleKind_room_in1 hu) (key_of I.hok eb) dd fun h' dd' hs => h _ ?_
    obtain ⟨q, es, ep, hq, h2, h3, h4, _, h5⟩ := dd'
    refine d_write I (by rw [e]; exact True.intro) hs ⟨q, hq⟩ ⟨hl, hd, _, (rel.put k eb rv).keeps fun c ys ec => ?_, q, es, ep, hq, h2, h3, h4, h5⟩
    rw [upd_ne (ne_of ec e (fun z => nomatch z))]
    exact ec
end

section
variable {X : Cx} {pins : List (Addr × Obj)} {σ : St} {H : Hp} {s : Shared} {a : Addr} {kvs : List (Key × V)} {k : Key} {u : Value} {A : Around} {E : Value → Shared → Prop}
end


/-! ### readings and rules -/
/-- the element of a subscription, not a slice -/
def NoSl (i : Expr) : Prop := ∀ ov iv, subscripted i false ov iv = operate [ov, iv] (getItem ov iv)
theorem subD_of {prog : Program} {w : World} {A : Around} {E : Value → Shared → Prop} {s : Shared} {env : Env} {value slice : Expr} {pos : Pos} {T id : String} {Q : Value → Shared → Prop}
    (hl : typeLookup (.type T) "__getitem__" = pure (some (.builtin id))) (hs : NoSl slice)
    (h : wpAny (model prog w) A (eval value env) (fun o s₁ => wpAny (model prog w) A (eval slice env) (fun i s₂ => s₂.TypeIs o T ∧ wpAny (model prog w) A (getItem o i) Q E s₂) E s₁) E s) :
    wpAny (model prog w) A (eval (.Subscript value slice pos) env) Q E s := by
  refine Subscript_ (wpAny_mono h (fun o s₁ h₁ => wpAny_mono h₁ (fun i s₂ h₂ => ?_) fun _ _ x => x) fun _ _ x => x)
  obtain ⟨hT, h₂⟩ := h₂
  unfold subscriptTail
  refine wpAny_bind ?_
  rw [getitemInPython_of_ne hT.not_modules]
  refine wpAny_bind (wpAny_specialOf hT hl ?_)
  have fin : wpAny (model prog w) A (subscripted slice false o i) (fun r s₃ => wpAny (model prog w) A (letTemporaryGo value o r >>= fun _ => pure r) Q E s₃) E s₂ := by
    rw [hs o i]
    exact wpAny_operating (wpAny_mono h₂ (fun r s₃ h₃ => wpAny_bind (wpAny_letTemporaryGo (wpAny_pure h₃))) fun _ _ x => x)
  first
    | exact wpAny_pure (wpAny_bind fin)
    | exact wpAny_bind (wpAny_pure (wpAny_bind fin))
    | exact wpAny_bind fin

theorem dict_typeIs {X : Cx} {pins : List (Addr × Obj)} {σ : St} {H : Hp} {s : Shared} {a : Addr} {y : V} {o : Option V} (I : Inv X pins σ H s) (g : DGet H a y o) : s.TypeIs (.ref a) "dict" := by
  rcases g with ⟨kvs, k, e, _, _⟩ | ⟨kvs, k, b, e, _, _, _⟩
  · obtain ⟨_, _, vs, _, dd⟩ := dk_rd I.hok e
    exact dd.typeIs
  · obtain ⟨_, _, xs, _, dd⟩ := dt_rd I.hok e
    exact dd.typeIs

/-- d[y] -/
def tDGet (td ty : TE) : TE := fun σ H Q => td σ H fun x H1 => ty σ H1 fun y H2 => ∃ a v, x = .ref a ∧ DGet H2 a y (some v) ∧ Q v H2
/-- d[y] = v -/
def sDPut (td ty tv : TE) : TS := fun D σ H => tv σ H fun v H1 => td σ H1 fun x H2 => ty σ H2 fun y H3 => ∃ a H4, x = .ref a ∧ DPut H3 a y v H4 ∧ D.nx σ H4

section
variable {X : Cx} {o i e value : Expr} {pos pos' tpos : Pos} {td ty tv : TE}
theorem pe_dget (hu : X.A.units + 1 < cLine) (ho : PE X o td) (hi : PE X i ty) (hs : NoSl i) : PE X (.Subscript o i pos) (tDGet td ty) := by
  intro pins s σ H Q I h
  refine subD_of PySem.F.slot_dict_getitem.lookup hs (thn (ho pins s σ H _ I h) fun u s1 ⟨x, H1, I1, rx, q1⟩ => thn (hi pins s1 σ H1 _ I1 q1) fun iv s2 ⟨y, H2, I2, ry, a, v, ex, g, q2⟩ => ?_)
  subst ex
  obtain rfl : u = Value.ref a := rx
  exact ⟨dict_typeIs I2 g, d_getItem hu I2 g ry fun w' s3 I3 rw' => ⟨v, H2, I3, rw', q2⟩⟩
theorem ps_dput (hu : X.A.units + 1 < cLine) (ho : PE X o td) (hi : PE X i ty) (hv : PE X value tv) (hs : swapsWith value (some (.Subscript o i pos')) pos.line X.env = pure false) :
    PS X (.Assign [.Subscript o i pos'] value pos) (sDPut td ty tv) := by
  intro pins s σ H D I h
  refine wpAny_Assign_Subscript (thn (hv pins s σ H _ I h) fun r s1 ⟨v, H1, I1, rv, q1⟩ => thn (ho pins s1 σ H1 _ I1 q1) fun u s2 ⟨x, H2, I2, rx, q2⟩ => thn (hi pins s2 σ H2 _ I2 q2) fun iv s3 ⟨y, H3, I3, ry, a, H4, ex, g, q3⟩ => ?_) hs
  subst ex
  obtain rfl : u = Value.ref a := rx
  exact d_setItem hu I3 g ry rv fun s4 I4 => ⟨σ, H4, I4, q3⟩
end


/-! ### displays -/
theorem dk_empty {P : Program} {w : World} {H : Hp} (h : Heap) (hb : sysModules < h.objs.size) : ObjOk P w H (h.push { cls := .type "dict", data := .dict #[] }) h.objs.size (.dK []) :=
  ⟨Nat.zero_le _, beq_eq_false_iff_ne.mpr (Ne.symm (Nat.ne_of_lt hb)), [], .nil, Heap.DictOf.new h⟩
/-- {}, to be a dict of the kind that is wanted -/
def tDNewK : TE := fun _ H Q => ∀ p, H p = none → Q (.ref p) (upd H p (.dK []))
section
variable {X : Cx} {pos : Pos}
theorem pe_dnewK : PE X (.Dict [] [] pos) tDNewK := fun pins s σ H Q I h =>
  wpAny_Dict_empty ⟨.ref s.heap.objs.size, _, I.laid (a := s.heap.objs.size) (o := .dK []) (t' := s.toks) (fun _ _ q => Heap.get?_push_of_some _ q) (Nat.le_refl _) (dk_empty s.heap I.big), rfl, h _ (I.hok.fresh (Nat.le_refl _))⟩
end




/-! ### methods -/
/-- a method call o.m(e) of a built-in, with one argument: what must be seen of the text -/
structure M1 (X : Cx) (o : Expr) (m : Str) (apos : Pos) (e : Expr) (cpos : Pos) : Prop where
  base : attributeBase o m X.env (eval o X.env) = eval o X.env
  few : ((backTo cpos (starEach [e] X.env)).all (fun x => !x.1) && (backToKw cpos (keywordEach [] X.env)).all (fun x => x.1.isSome)
    && decide (([e] : List Expr).length + ([] : List Keyword).length + (if ([] : List Keyword).isEmpty then 0 else 1) < 30)) = true
  line : (apos.endLine == cpos.line) = true
  trees : backTo cpos (starEach [e] X.env) = [(false, eval e X.env)]
structure M2 (X : Cx) (o : Expr) (m : Str) (apos : Pos) (e f : Expr) (cpos : Pos) : Prop where
  base : attributeBase o m X.env (eval o X.env) = eval o X.env
  few : ((backTo cpos (starEach [e, f] X.env)).all (fun x => !x.1) && (backToKw cpos (keywordEach [] X.env)).all (fun x => x.1.isSome)
    && decide (([e, f] : List Expr).length + ([] : List Keyword).length + (if ([] : List Keyword).isEmpty then 0 else 1) < 30)) = true
  line : (apos.endLine == cpos.line) = true
  trees : backTo cpos (starEach [e, f] X.env) = [(false, eval e X.env), (false, eval f X.env)]

/-- a is a dict, whatever its keys -/
def IsD (H : Hp) (a : Addr) : Prop := (∃ kvs, Rd H a (.dK kvs)) ∨ ∃ kvs, Rd H a (.dT kvs)
theorem isD_at {X : Cx} {pins : List (Addr × Obj)} {σ : St} {H : Hp} {s : Shared} {a : Addr} (I : Inv X pins σ H s) (d : IsD H a) :
    s.TypeIs (.ref a) "dict" ∧ (∀ b, Value.ref a = .ref b → ∃ ob, s.heap.get? b = some ob ∧ ob.dict = none) ∧ (a == sysModules) = false := by
  rcases d with ⟨kvs, e⟩ | ⟨kvs, e⟩
  · obtain ⟨_, hd, vs, _, dd⟩ := dk_rd I.hok e
    refine ⟨dd.typeIs, fun b q => ?_, hd⟩
    cases q
    obtain ⟨ob, _, _, h1, h2, _⟩ := dd
    exact ⟨ob, h1, h2.2.1⟩
  · obtain ⟨_, hd, xs, _, dd⟩ := dt_rd I.hok e
    refine ⟨dd.typeIs, fun b q => ?_, hd⟩
    cases q
    obtain ⟨ob, _, _, h1, h2, _⟩ := dd
    exact ⟨ob, h1, h2.2.1⟩

section
variable {X : Cx} {pins : List (Addr × Obj)} {σ : St} {H : Hp} {s : Shared} {a : Addr} {y d : V} {u r : Value} {o : Option V} {A : Around} {E : Value → Shared → Prop}
/-- d.get(y, x) -/
theorem d_get2 {Q : Value → Shared → Prop} (hu : A.units + 1 < cLine) (I : Inv X pins σ H s) (g : DGet H a y o) (ry : RelV y u) (rd : RelV d r) (h : ∀ w' s', Inv X pins σ H s' → RelV (o.getD d) w' → Q w' s') :
    wpAny (model X.prog X.w) A (call (.builtin "dict.get") [.ref a, u, r]) Q E s := by
  rcases g with ⟨kvs, k, e, ey, l⟩ | ⟨kvs, k, b, e, ey, eb, l⟩
  · subst ey
    obtain ⟨z, hd, vs, rel, dd⟩ := dk_rd I.hok e
    refine call_meetsIn PySem.F.slot_dict_get dd.typeIs PySem.F.entry_dict_get (PySem.F.args_dict_get_3 _ _ _) (meets_dict_get_default (mixKind X.prog X.w) a (kV_is ry) hd r) ⟨_, dd.mapOf, h _ _ (I.tok _) ?_⟩
    rw [l]
    exact (rel.val k).getD rd
  · subst ey
    cases (show u = Value.ref b from ry)
    obtain ⟨z, hd, xs, rel, dd⟩ := dt_rd I.hok e
    refine call_meetsIn PySem.F.slot_dict_get dd.typeIs PySem.F.entry_dict_get (PySem.F.args_dict_get_3 _ _ _) (meetsH_dict_get_default (tupleKind (mixKind X.prog X.w)) a b hd r) ⟨tupleKind_room_in1 hu, k, xs, key_of I.hok eb, dd, h _ _ (I.tok _) ?_⟩
    rw [l]
    exact (rel.val k).getD rd
end

def tDGet2 (td ty tx : TE) : TE := fun σ H Q => td σ H fun x H1 => ∃ a, x = .ref a ∧ IsD H1 a ∧ ty σ H1 fun y H2 => tx σ H2 fun z H3 => ∃ o, DGet H3 a y o ∧ Q (o.getD z) H3
section
variable {X : Cx} {o e f : Expr} {apos cpos : Pos} {td ty tx : TE}
theorem pe_dget2 (hu : X.A.units + 1 < cLine) (ho : PE X o td) (he : PE X e ty) (hf : PE X f tx) (m : M2 X o "get" apos e f cpos) : PE X (.Call (.Attribute o "get" apos) [e, f] [] cpos) (tDGet2 td ty tx) := by
  intro pins s σ H Q I h
  refine wpAny_Call_method m.base m.few m.line PySem.F.plainAttrs_dict PySem.F.slot_dict_get PySem.F.type_dict_get (thn (ho pins s σ H _ I h) fun u s1 ⟨x, H1, I1, rx, a, ex, d, q1⟩ => ?_)
  subst ex
  obtain rfl : u = Value.ref a := rx
  obtain ⟨t1, t2, _⟩ := isD_at I1 d
  refine ⟨t1, t2, ?_⟩
  rw [m.trees]
  refine Calls.callWith_builtin rfl (Calls.evalArgs_plain (Calls.spliced_cons (thn (he pins s1 σ H1 _ I1 q1) fun iv s2 ⟨y, H2, I2, ry, q2⟩ =>
    Calls.spliced_cons (thn (hf pins s2 σ H2 _ I2 q2) fun fv s3 ⟨z, H3, I3, rz, ov, g, q3⟩ => Calls.spliced_nil ?_))))
  exact d_get2 hu I3 g ry rz fun w' s4 I4 rw' => ⟨_, H3, I4, rw', q3⟩
end

/-! ### dict(d): a copy -/
section
variable {X : Cx} {pins : List (Addr × Obj)} {σ : St} {H : Hp} {s : Shared} {a : Addr} {kvs : List (Key × V)} {A : Around} {E : Value → Shared → Prop}
end


section
variable {X : Cx} {pins : List (Addr × Obj)} {σ : St} {H : Hp} {s : Shared} {a : Addr} {y : V} {u : Value} {A : Around} {E : Value → Shared → Prop}
end
end L2


namespace Att
open PySem PySem.W PySem.Calls PyProof.Rows

/-! ### the script -/
theorem ints_of_wellAll {P : Params} {h : Heap} : ∀ (ns : List Int) (vs : List Value), WellAll P h vs (ns.map WData.int) → IntsAre vs ns := by
  intro ns
  induction ns with
  | nil =>
    intro vs w
    rw [List.map_nil] at w
    cases w
    exact .nil
  | cons n ns ih =>
    intro vs w
    rw [List.map_cons] at w
    cases w with
    | cons a b =>
      cases a
      exact .cons _ _ (ih _ b)

theorem script_of {l : OpenLaw} {n : Nat} (hn : l.most = some n) {P : Params} {h : Heap} {args : List WData} {vals : List Value}
    (hpre : l.row.toRowW.claim.pre args = true) (hwl : WellAll P h vals args) :
    ∃ a vs ns, vals = [Value.ref a] ∧ args = [WData.list (ns.map WData.int)] ∧ h.get? a = some { cls := .type "list", data := .seq vs.toArray } ∧ IntsAre vs ns ∧ ns.length ≤ n := by
  have hsh : WShape.hasAll [] args [.list .int] = true := (pre_splitW hpre).1
  have hc : l.pre.holds [] { args := args } = true := (pre_splitW hpre).2
  obtain ⟨d, r, rfl, h1, h2⟩ := hasAllW_cons hsh
  obtain rfl := hasAllW_nil h2
  obtain ⟨xs, rfl, h3⟩ := hasW_list h1
  obtain ⟨ns, rfl⟩ := items_int h3
  have hlen : ns.length ≤ n := by
    unfold OpenLaw.pre at hc
    have h4 : (WTm.not (.lt (.lit (.int (n : Int))) (.len (.arg 0)))).holds [] { args := [.list (ns.map .int)] } = true := by
      have h4 := (holds_andW hc).1
      rw [hn] at h4
      exact h4
    have h5 := condW_of h4 (w_not (w_lt w_lit (w_len_list (w_arg rfl))))
    rw [List.length_map] at h5
    refine Nat.le_of_not_lt fun q => ?_
    have q' : (n : Int) < ((ns.length : Nat) : Int) := by omega
    first
      | (rw [decide_eq_true q'] at h5; exact absurd h5 (by decide))
      | (simp at h5; omega)
  cases hwl with
  | cons w1 w2 =>
    cases w2
    cases w1 with
    | list ho hall => exact ⟨_, _, ns, rfl, rfl, ho, ints_of_wellAll ns _ hall, hlen⟩

theorem post_true (l : OpenLaw) (args : List WData) : l.row.toRowW.claim.post args (.bool true) args = true :=
  postW_of (r := l.row.toRowW) (X := (true == true))
    (show WShape.has [] (.bool true) .bool = true by first | rfl | decide | simp [WShape.has, WShape.arms, WShape.armsAll])
    (show (WTm.eq .res (.lit (.bool true))).value [] { args := args, res := some (.bool true), after := args } = some (.bool (true == true)) from w_eq_bool (w_res rfl) w_lit) rfl

/-! ### the attachment: holds_open's last premise (the goal 'hc' behind k_head) from a wpAny of the law's body -/

/-- the same from a codeAny of the CALL (for a layer whose function contracts speak of calls) -/
theorem attach_call {l : OpenLaw} {n : Nat} {q : Program} {loose : List Str} {XP : (Str → Option Value) → Heap → Prop} {YP : World → Heap → Prop} {d : DefRec}
    (hn : l.most = some n) (hdf : d.params.defaults = [])
    (call : ∀ (w : World) (s₀ s₁ : Shared) (mg mb : Str → Option Value) (fa : Addr) (o : Obj) (pm cd doc : Value) (a : Addr) (vs : List Value) (ns : List Int),
      Ground q loose [] XP w s₀ mg mb s₁.heap → YP w s₁.heap →
      s₁.heap.get? fa = some o → o.data = .func (docDef d.name d.params d.body d.scope pm cd doc) → s₁.heap.CodeRec cd d.name → mg d.name = some (.ref fa) →
      s₁.heap.get? a = some { cls := .type "list", data := .seq vs.toArray } → IntsAre vs ns → ns.length ≤ n → s₁.gens = #[] →
      codeAny (model l.prog w) callerA (.call (.ref fa) ⟨[.ref a], []⟩) (fun r s' => r = .ok (.ret (.bool true)) ∧ OldK s₁.heap s'.heap ∧ s'.os = s₁.os ∧ AllBare s'.gens) s₁) :
    WalkO q loose XP YP l.row.toRowW d [] (fun f vs => PySem.call f vs) := by
  intro w s₀ s₁ mg mb G Y fa o pm cd doc dV kV ho hd hcd hD hmg hg args vals as hpre hlay hrd hwl hlo
  obtain rfl : dV = .none := Dflts.none hD hdf
  obtain rfl : kV = .none := Dflts.noKw hD
  obtain ⟨a, vs, ns, rfl, rfl, hobj, hints, hlen⟩ := script_of hn hpre hwl
  refine enter_call (codeAny_mono (call w s₀ s₁ mg mb fa o pm cd doc a vs ns G Y ho (fd_plain hd) hcd hmg hobj hints hlen hg) fun r s' hq => ?_)
  obtain ⟨rfl, h2, h3, h4⟩ := hq
  exact ⟨.inl ⟨.bool true, .bool true, [], rfl, fun _ => rfl, .bool true, post_true l _, fun _ => ⟨List.Pairwise.nil, fun _ hm => (nomatch hm)⟩⟩, h2, h3, h4⟩


/-! ### rules over ANY heap (no ledger) from facts about the written part K: the library's own take a ledger (News) for what they write -/
section
variable {prog : Program} {w : World} {A : Around} {E : Value → Shared → Prop} {s : Shared} {K : Frag}

/-- a def of the module, or a method (qual 'C.m'), entered: the frame is the next address; cells behind it -/
theorem call_fn {R : Result → Shared → Prop} {name qual : Str} {params : Arguments} {body : List Stmt} {scope : Scope} {dV kV doc pm cdv ct oc : Value} {an od : Option Addr} {osl : Array (Option Value)} {f : Addr} {args : Args} {binds : List (Str × Value)}
    (X : K.In s.heap) (hlim : s.heap.NoLimit) (ho : K.lookup f = some ⟨oc, od, .func (fnOf name qual params body scope dV kV doc pm an cdv ct), osl⟩) (hcd : codeIn K cdv qual = true) (hroom : A.depth < recursionLimit)
    (hbind : BindsTo s (fnOf name qual params body scope dV kV doc pm an cdv ct) args binds)
    (hkind : (binds.all fun y => scope.names.lookup y.1 == some .local || scope.names.lookup y.1 == some .cell) = true)
    (h : ∀ s₁, InCallC s s.heap.objs.size (bindL (envOfC qual scope s.heap.objs.size f cdv).kindOf binds fun _ => none) (cellsFrom (s.heap.objs.size + 1) scope.names [])
        (bindC (envOfC qual scope s.heap.objs.size f cdv).kindOf binds fun _ => none) s₁ →
      wpAny (model prog w) (A.deeper (envOfC qual scope s.heap.objs.size f cdv)) (execs body (envOfC qual scope s.heap.objs.size f cdv))
        (fun fl s' => R (.ok (.ret (match fl with | .ret v => v | _ => .none))) s')
        (fun e s' => wpAny (model prog w) (A.deeper (envOfC qual scope s.heap.objs.size f cdv)) (leaving (envOfC qual scope s.heap.objs.size f cdv) e) (fun _ s'' => R (.error e) s'') (fun e' s'' => R (.error e') s'') s') s₁)
    (hco : scope.isCoroutine = false) (hgen : scope.isGenerator = false) (hk : scope.kind = .function) : codeAny (model prog w) A (.call (.ref f) args) R s := by
  refine codeAny_call_function hroom (X _ _ ho) rfl hco hgen rfl (codeRec_of X hcd) (hbind _ _ _ _ ?_)
  refine wpAny_newFunctionEnv_cells hk (kindsX hkind _) fun env he s₁ x => ?_
  subst he
  exact ⟨hlim.keeps x.toInCall.keep, codeAny_func (h s₁ x)⟩

/-- C(..): dict at size, instance at size + 1, then __init__ -/
theorem make_obj {R : Result → Shared → Prop} {C fI : Addr} {rest : List Value} {kw : List (Str × Value)}
    (X : K.In s.heap) (hm : makesIn K C = true) (hi : findIn K (.ref C) "__init__" = some (some (.ref fI))) (hf : isFn K (.ref fI) = true)
    (h : codeAny (model prog w) (A.under (.builtin "type.__call__" ⟨.ref C :: rest, kw⟩)) (.call (.ref fI) ⟨.ref (s.heap.objs.size + 1) :: rest, kw⟩) (InitBack (s.heap.objs.size + 1) R)
      { s with heap := (s.heap.push emptyDict).push (instObj C s.heap.objs.size) }) : codeAny (model prog w) A (.call (.ref C) ⟨rest, kw⟩) R s := by
  obtain ⟨hh, g, d, t, os⟩ := s
  exact make_core (makes_of X hm) (looks_findIn X hi) (fun self => bind_fn X self (beq_iff_eq.mp hf)) (.inl rfl) h

/-- x.name where the instance's dict holds the name and the class does not -/
theorem get_field {x C : Addr} {ox : Obj} {es : List DictEntry} {n : Nat} {name : Str} {expr : Bool} {v : Value} {Q : Value → Shared → Prop}
    (X : K.In s.heap) (I : PySem.W.InstAt s.heap x ox C (some (dictOf es n))) (hg : plainGet K C name = true) (hh : hasDictIn K C = true) (ha : findIn K (.ref C) name = some none)
    (hl : getL name es = some (some v)) (hv : handedIn v = true) (h : Q v { s with toks := s.toks + 1 }) : wpAny (model prog w) A (getAttr (.ref x) name expr) Q E s :=
  get_value X I (plainGet_of hg).1 (findObj_own hh ha rfl hl) hv h


/-! the whole heap as the ledger: makes every rule that writes through a ledger a rule over any heap -/

end
end Att

namespace L2
open PySem PySem.Spec PyProof.Rows

theorem vals_ints : ∀ {vs : List Value} {ns : List Int}, IntsAre vs ns → Vals (ns.map V.int) vs
  | _, _, .nil => .nil
  | _, _, .cons n t h => .cons ⟨t, rfl⟩ (vals_ints h)

/-- nothing is tracked but the script, known to the object (or it is an object of the module) -/
def Only (H : Hp) : Prop := ∀ b, H b = none ∨ ∃ o xs, H b = some (.frz o (.lst xs))

/-- THE HEAD: the law's promise, at the heap behind the top. F, the promise of the law's def, may use that base is part of the heap (so K.In base, base.Ns mainGlobals mg stand in Mod) -/
theorem law_call {P : Program} {w : World} {K : PySem.W.Frag} {mg mb : Str → Option Value} {CX : CXT} {k : Nat} {fa a : Addr} {fd : FuncData} {x : Str} {sp : Sp} {s₁ : Shared} {vs : List Value} {ns : List Int}
    (KX : K.In s₁.heap) (hns : s₁.heap.Ns mainGlobals mg) (hb : s₁.heap.Ns builtinsNs mb) (hbb : ∀ x : Str, x ≠ "__name__" → mb x = bootBuiltins x) (hlim : s₁.heap.NoLimit) (hg : s₁.gens = #[])
    (ha : s₁.heap.get? a = some { cls := .type "list", data := .seq vs.toArray }) (hi : IntsAre vs ns) (hl : ns.length ≤ sizeLine) (hr : Room k callerA)
    (F : ∀ base : Heap, K.In base → base.Ns mainGlobals mg → FnOk P w K mg base CX k fa fd [x] sp) (hbind : ∀ (s : Shared) (u : Value), BindsTo s fd ⟨[u], []⟩ [(x, u)])
    (hsp : ∀ H : Hp, Only H → SqL K H a (ns.map V.int) → sp [.ref a] H (fun v _ => v = .bl true) fun _ _ _ => False)
    (hCX : ∀ H e s', CX [] H s₁ (fun _ _ _ => False) e s' → False) :
    codeAny (model P w) callerA (.call (.ref fa) ⟨[.ref a], []⟩) (fun r s' => r = .ok (.ret (.bool true)) ∧ OldK s₁.heap s'.heap ∧ s'.os = s₁.os ∧ AllBare s'.gens) s₁ := by
  have rv := vals_ints hi
  have lenV := hi.length
  -- from an abstract heap in which nothing but the script may be tracked
  have core : ∀ H : Hp, Only H → SqL K H a (ns.map V.int) → HOk P w H s₁.heap → (∀ b, H b ≠ none → b = a) → (H a ≠ none → K.lookup a = none) →
      codeAny (model P w) callerA (.call (.ref fa) ⟨[.ref a], []⟩) (fun r s' => r = .ok (.ret (.bool true)) ∧ OldK s₁.heap s'.heap ∧ s'.os = s₁.os ∧ AllBare s'.gens) s₁ := by
    intro H hO hS hok hA hK
    have base_of : ∀ {b : Addr} {o : Obj}, s₁.heap.get? b = some o → H b = none → (hidT s₁.heap H).get? b = some o := fun e n => hidT_get e n
    have noA : ∀ {b : Addr} {o : Obj} {es : Array DictEntry} {ep : Nat}, s₁.heap.get? b = some o → o.data = .dict es ep → H b = none := fun {b o es ep} e d => by
      cases q : H b with
      | none => rfl
      | some u =>
        have e' : b = a := hA b (by rw [q]; simp)
        subst e'
        rw [ha] at e; cases e
        have d' : Data.seq vs.toArray _ = Data.dict es ep := d
        cases d'
    have nsK : ∀ {b : Addr} {m : Str → Option Value}, s₁.heap.Ns b m → (hidT s₁.heap H).Ns b m := fun {b m} ⟨o, es, ep, e, d, r⟩ => ⟨o, es, ep, base_of e (noA e d), d, r⟩
    have hKb : K.In (hidT s₁.heap H) := fun b o e => base_of (KX b o e) (by
      cases q : H b with
      | none => rfl
      | some u =>
        have e' : b = a := hA b (by rw [q]; simp)
        subst e'
        rw [hK (by rw [q]; simp)] at e; cases e)
    have hM : Mod K mg (hidT s₁.heap H) := ⟨hKb, nsK hns, ⟨mb, nsK hb, hbb⟩, let ⟨mc, h1, h2⟩ := hlim; ⟨mc, nsK h1, h2⟩⟩
    have e0 : Env0 P w K mg (hidT s₁.heap H) callerA [] s₁ H := ⟨rfl, hM, fun b o e => of_hidT e, Nat.le_of_eq (hidT_size _ _), trivial, fun b hb => absurd (show b ∈ ([] : List Addr) from hb) (by simp), hok, .of_eq hg⟩
    refine codeAny_mono ((F _ hKb (nsK hns)).run callerA [] s₁ H ⟨[.ref a], []⟩ [.ref a] [.ref a] _ _ hr e0 (hbind s₁ (.ref a)) (.cons rfl .nil) (hsp H hO hS)) fun r s' h => ?_
    cases r with
    | error e => exact (hCX H e s' h).elim
    | ok fl =>
      cases fl with
      | next => exact False.elim h
      | brk => exact False.elim h
      | cont => exact False.elim h
      | ret u =>
        obtain ⟨v, H', os, bare, un, hok', r', q⟩ := h
        have q' : v = .bl true := q
        subst q'
        obtain rfl : u = Value.bool true := r'
        refine ⟨rfl, OldK.of_keep fun b o e => ?_, os, bare⟩
        cases q : H b with
        | none => exact un.keep b o e q (by intro z; exact absurd (show b ∈ ([] : List Addr) from z) (by simp)) (by simp)
        | some u =>
          rcases hO b with z | ⟨ob, xs, z⟩
          · rw [q] at z; cases z
          · have z2 := un.frzs b ob _ z
            obtain ⟨e1, _⟩ := hok b _ z
            obtain ⟨e2, _⟩ := hok' b _ z2
            rw [e] at e1; cases e1
            exact e2
  cases hk : K.lookup a with
  | some o =>
    -- the script is one of the module's own objects
    have e := KX a o hk
    rw [ha] at e
    cases e
    refine core (fun _ => none) (fun _ => .inl rfl) (.inr ⟨_, vs.toArray, _, hk, rfl, rfl, rfl, by rw [List.size_toArray, lenV]; exact hl, by simpa using rv⟩) (fun b u z => by have z' : (none : Option HO) = some u := z; cases z') (fun b z => absurd rfl z) fun z => absurd rfl z
  | none =>
    refine core (fun b => if b = a then some (.frz { cls := .type "list", data := .seq vs.toArray } (.lst (ns.map V.int))) else none) (fun b => ?_) (.inl (.inr ⟨{ cls := .type "list", data := .seq vs.toArray }, if_pos rfl⟩)) (fun b u z => ?_) (fun b z => ?_) fun _ => hk
    · by_cases hb : b = a
      · exact .inr ⟨_, _, if_pos hb⟩
      · exact .inl (if_neg hb)
    · by_cases hb : b = a
      · have z' := (if_pos hb).symm.trans z
        cases z'
        subst hb
        exact ⟨ha, by rw [List.length_map]; exact hl, vs, _, rv, ha⟩
      · have z' := (if_neg hb).symm.trans z
        cases z'
    · by_cases hb : b = a
      · exact hb
      · exact absurd (if_neg hb) z
end L2

namespace L2
open PySem PySem.Spec PyProof.Rows

abbrev KOf {K : PySem.W.Frag} {h : Heap} (_ : K.In h) : PySem.W.Frag := K

/-- the goal that k_head leaves (case hc), from the law's promise. F gives the function object fd (K's own) once, then the promise over every base -/
theorem walk_of {l : PySem.W.OpenLaw} {n k : Nat} {q : Program} {loose : List Str} {XP : (Str → Option Value) → Heap → Prop} {YP : World → Heap → Prop} {d : DefRec} {K : Params → PySem.W.Frag} {CX : World → CXT} {sp : World → Sp} {x : Str}
    (hn : l.most = some n) (hn2 : n ≤ sizeLine) (hdf : d.params.defaults = []) (hr : Room k callerA)
    (hY : ∀ (w : World) (h : Heap), YP w h → (K w.params).In h)
    (F : ∀ (w : World) (mg : Str → Option Value) (fa : Addr) (h : Heap), (K w.params).In h → h.Ns mainGlobals mg → mg d.name = some (.ref fa) →
      ∃ fd : FuncData, (∀ (s : Shared) (u : Value), BindsTo s fd ⟨[u], []⟩ [(x, u)]) ∧
        ∀ base : Heap, (K w.params).In base → base.Ns mainGlobals mg → FnOk l.prog w (K w.params) mg base (CX w) k fa fd [x] (sp w))
    (hsp : ∀ (w : World) (H : Hp) (a : Addr) (ns : List Int), ns.length ≤ n → Only H → SqL (K w.params) H a (ns.map V.int) → sp w [.ref a] H (fun v _ => v = .bl true) fun _ _ _ => False)
    (hCX : ∀ (w : World) (H : Hp) (s : Shared) (e : Value) (s' : Shared), CX w [] H s (fun _ _ _ => False) e s' → False) :
    PySem.W.WalkO q loose XP YP l.row.toRowW d [] (fun f vs => PySem.call f vs) := by
  refine Att.attach_call hn hdf fun w s₀ s₁ mg mb fa o pm cd doc a vs ns G Y ho hd hcd hmg hobj hints hlen hg => ?_
  have KX := hY w _ Y
  obtain ⟨fd, hb, hF⟩ := F w mg fa _ KX G.T.g hmg
  exact law_call KX G.T.g G.T.b G.T.builtins G.T.nolimit hg hobj hints (Nat.le_trans hlen hn2) hr hF hb (fun H hO hS => hsp w H a ns hlen hO hS) fun H e s' => hCX w H s₁ e s'
end L2

/- THE LAST THEOREM (shape; LID, My.* are yours):
   My.Adr: a structure of the addresses that your layer names (classes, functions); My.Txt K t: a structure (Prop) of the equations over K;
   My.txt_mk : {K} {implicit addresses ..} (e1 : nsIn K mainGlobals "law" = some (some (.ref f))) (e2 : K.lookup f = some ⟨oc, od, .func (fnOf "law" "law" params body scope dV kV doc pm an cdv ct), sl⟩) (e3 : codeIn K cdv "law" = true) .. : ∃ t, My.Txt K t

set_option maxRecDepth 100000 in
set_option maxHeartbeats 0 in
theorem PySem.Challenge.cw_LID_holds : PySem.Challenge.rw_LID.Holds := by
  w_on; o_law; k_head; (case hw => w_witness2)
  k_fill
  refine L2.walk_of (l := PySem.Challenge.rw_LID) (n := 63) (k := 40) (x := "script") (CX := fun w => ..) (sp := fun _ => My.sp_law) rfl (by decide) rfl ⟨rfl, by decide, by decide⟩ (fun w h Y => PySem.W.kIn_of Y) ?F ?S ?C
  case F =>
    intro w mg fa h KX G hmg
    have T : ∃ t, My.Txt (L2.KOf KX) t := by
      dsimp only [L2.KOf]                          -- K must stand as «<heap const> w.params» for k_is
      refine' My.txt_mk ?e1 ?e2 ?e3 ..
      (case e1 => PySem.W.k_is)                    -- in the order: a name -> its address -> its object -> its parts
      (case e2 => PySem.W.k_is)
      ..
    obtain ⟨t, T⟩ := T
    have e0 := hmg.symm.trans (PySem.W.mg_of KX G T.law)
    cases e0                                       -- fa is the law's own address
    exact ⟨_, fun s u => .of_eq rfl, fun base kb nb => My.law_fn T kb nb⟩     -- if «.of_eq rfl» comes too early: refine' ⟨_, ?b, fun base kb nb => My.law_fn T kb nb⟩; exact fun s u => .of_eq rfl
  case S => exact fun w H a ns hl hO hS => ..
  case C => exact ..
(the tactic k_is has no namespace: write k_is) -/

/-! SHORT WORDS over the layer: a def of the text, its body, what a loop and a test want. -/
namespace L2
open PySem PySem.Spec PyProof.Rows

/-! ### the text by places -/
def defArgs (s : Stmt) : Arguments := match s with
  | .FunctionDef _ a _ _ _ _ _ _ _ _ => a
  | _ => { posonlyargs := [], args := [], vararg := none, kwonlyargs := [], kw_defaults := [], kwarg := none, defaults := [] }
def defBody (s : Stmt) : List Stmt := match s with
  | .FunctionDef _ _ b _ _ _ _ _ _ _ => b
  | _ => []
def defScope (s : Stmt) : Scope := match s with
  | .FunctionDef _ _ _ _ _ _ sc _ _ _ => sc
  | _ => { kind := .function, names := [], isGenerator := false, isCoroutine := false }

/-! ### no exception leaves a def -/
abbrev CX0 : CXT := fun _ _ _ _ _ _ => False
abbrev E0 : XK := fun _ _ _ => False
theorem pass0 {X : Cx} : Passes CX0 X E0 := fun _ _ _ _ _ _ _ h => h.elim

/-! ### a def (or method) of the text as it stands behind the top -/
structure Fun (K : PySem.W.Frag) (x qual : Str) (st : Stmt) (f : Addr) (fd : FuncData) : Prop where
  ex : ∃ (oc : Value) (od : Option Addr) (kV doc pm : Value) (an : Option Addr) (cdv ct : Value) (osl : Array (Option Value)),
    fd = PySem.W.fnOf x qual (defArgs st) (defBody st) (defScope st) .none kV doc pm an cdv ct ∧ K.lookup f = some ⟨oc, od, .func fd, osl⟩ ∧ PySem.W.codeIn K cdv qual = true
  kp : PySem.W.keepIn K (.ref f) = true
section
variable {P : Program} {w : World} {K : PySem.W.Frag} {mg : Str → Option Value} {base : Heap}
/-- THE RULE for a def: its body as a term of rules, and the reading of that term -/
theorem Fun.ok {x qual : Str} {st : Stmt} {f : Addr} {fd : FuncData} {N ps : List Str} {k : Nat} {sp : Sp} (F : Fun K x qual st f fd) (S : FnScope N ps (defScope st)) (len : ∀ vs H Q E, sp vs H Q E → vs.length = ps.length)
    (hbody : ∀ (cdv : Value) (A : Around) (outer : List Env) (s : Shared) (H : Hp) (vs : List V) (Q : VK) (E : XK), Room k (A.deeper (envOfC qual (defScope st) s.heap.objs.size f cdv)) → sp vs H Q E →
      ∃ t, PSs (cxOf CX0 P w K mg base N qual (defScope st) f cdv A outer s H E).nox (defBody st) t ∧ t { nx := fun _ H' => Q .non H', rt := Q } (start N vs) H) : FnOk P w K mg base CX0 (k + 1) f fd ps sp := by
  obtain ⟨oc, od, kV, doc, pm, an, cdv, ct, osl, rfl, lk, hcd⟩ := F.ex
  refine fn_of lk hcd S len fun A outer s H vs Q E hr hsp => ?_
  obtain ⟨t, h, q⟩ := hbody cdv A outer s H vs Q E hr hsp
  exact ⟨t, h.nox, q⟩
/-- how its arguments bind (no defaults): h is «fun _ _ _ _ _ _ us hl => match us, hl with | [_, _], _ => rfl», one _ a parameter -/
theorem Fun.binds {x qual : Str} {st : Stmt} {f : Addr} {fd : FuncData} {ps : List Str} (F : Fun K x qual st f fd)
    (h : ∀ (kV doc pm : Value) (an : Option Addr) (cdv ct : Value) (us : List Value), us.length = ps.length → bindArgs (PySem.W.fnOf x qual (defArgs st) (defBody st) (defScope st) .none kV doc pm an cdv ct) ⟨us, []⟩ = pure (ps.zip us)) : Binds K fd ps [] := by
  obtain ⟨oc, od, kV, doc, pm, an, cdv, ct, osl, rfl, lk, hcd⟩ := F.ex
  exact .all (h kV doc pm an cdv ct)
theorem fun_mk {x qual : Str} {st : Stmt} {f : Addr} {oc : Value} {od an : Option Addr} {osl : Array (Option Value)} {kV doc pm cdv ct : Value} (l : K.lookup f = some ⟨oc, od, .func (PySem.W.fnOf x qual (defArgs st) (defBody st) (defScope st) .none kV doc pm an cdv ct), osl⟩)
    (c : PySem.W.codeIn K cdv qual = true) (k : PySem.W.keepIn K (.ref f) = true) : Fun K x qual st f (PySem.W.fnOf x qual (defArgs st) (defBody st) (defScope st) .none kV doc pm an cdv ct) := ⟨⟨oc, od, kV, doc, pm, an, cdv, ct, osl, rfl, l, c⟩, k⟩
end
theorem hu_of {A : Around} {k : Nat} (hr : Room k A) : A.units + 1 < cLine := Nat.lt_of_le_of_lt (Nat.add_le_add_left (by decide : 1 ≤ 64) _) hr.units
theorem small1000 {n : Nat} (h : n ≤ 1000) : n < sizeLine := Nat.lt_of_le_of_lt h (by decide)

/-! ### expressions in short: the name that stands in the i-th slot -/
section
variable {X : Cx}
theorem pv (i : Nat) {x : Str} {pos : Pos} (hN : X.N[i]? = some x := by rfl) (hv : Vis X.env.scope x := by first | exact Or.inl rfl | exact Or.inr (Or.inl rfl) | exact Or.inr (Or.inr rfl)) (hd : (x == ("__debug__" : Str)) = false := by decide)
    (hcd : (x == ("__classdict__" : Str)) = false := by decide) : PE X (.Name x pos) (tVar i) := pe_var hN hv hd hcd
end

/-! ### tests -/
theorem iteF {A B : Prop} (h : B) : if false = true then A else B := by
  rw [if_neg Bool.false_ne_true]
  exact h
theorem iteT {A B : Prop} (h : A) : if true = true then A else B := by
  rw [if_pos rfl]
  exact h
theorem ite2 {c A B : Prop} [Decidable c] (h1 : c → A) (h2 : ¬ c → B) : if c then A else B := by
  by_cases h : c
  · rw [if_pos h]
    exact h1 h
  · rw [if_neg h]
    exact h2 h

/-! ### heaps -/
/-- all that was tracked is as it was -/
def Same (H H' : Hp) : Prop := ∀ b o, H b = some o → H' b = some o
theorem Same.refl (H : Hp) : Same H H := fun _ _ h => h
theorem Same.trans {H H1 H2 : Hp} (a : Same H H1) (b : Same H1 H2) : Same H H2 := fun c o h => b c o (a c o h)
theorem Same.free {H H' : Hp} (e : Same H H') {l : Addr} (h : H' l = Option.none) : H l = Option.none := by
  cases q : H l with
  | none => rfl
  | some o =>
    rw [e l o q] at h
    cases h
theorem Same.seq {K : PySem.W.Frag} {H H' : Hp} {a : Addr} {xs : List V} (e : Same H H') (h : SqL K H a xs) : SqL K H' a xs := by
  rcases h with (h | ⟨o, h⟩) | h
  · exact .inl (.inl (e _ _ h))
  · exact .inl (.inr ⟨o, e _ _ h⟩)
  · exact .inr h

/-! ### a dict's pairs: keys that differ -/
section
variable {κ : Type} [DecidableEq κ]
theorem valV_in {kvs : List (κ × V)} {k : κ} {v : V} (h : valV kvs k = some v) : k ∈ kvs.map (·.1) := by
  have q : (kvs.any fun kv => decide (kv.1 = k)) = true := by
    rw [valV_any, h]
    all_goals rfl
  obtain ⟨p, hp, e⟩ := List.any_eq_true.mp q
  exact List.mem_map.mpr ⟨p, hp, of_decide_eq_true e⟩
end
end L2

namespace L2
open PySem PySem.Spec PyProof.Rows

/-! ### comprehensions -/
section
variable {prog : Program} {w : World} {A : Around} {R : Result → Shared → Prop} {s : Shared}
theorem compLoop_own {elt target iter : Expr} {ifs : List Expr} {scope : Scope} {pos : Pos} {it acc : Value} {env : Env} (I : Nat → Shared → Prop)
    (turn : ∀ n s, I n s → wpAny (model prog w) A (pyNext it) (fun r s1 => match r with
      | none => R (.ok .next) s1
      | some v => wpAny (model prog w) A (letOwnedTupleGo target it v) (fun _ s1' => wpAny (model prog w) A (assign target env v) (fun _ s2 =>
          wpAny (model prog w) A (forIn ifs true fun c r => if r = true then do let ok ← isTrue c env (eval c env); pure (ForInStep.yield ok) else pure (ForInStep.yield r)) (fun ok s3 =>
            if ok = true then wpAny (model prog w) A (eval elt env) (fun x s4 =>
              wpAny (model prog w) A (call (.builtin "list.append") [acc, x]) (fun _ s5 => ∃ m, m < n ∧ I m s5) (fun _ _ => False) s4) (fun _ _ => False) s3
            else ∃ m, m < n ∧ I m s3) (fun _ _ => False) s2) (fun _ _ => False) s1') (fun _ _ => False) s1) (fun _ _ => False) s)
    (n : Nat) (h : I n s) :
    codeAny (model prog w) A (.compLoop (.ListComp elt [⟨target, iter, ifs, 0⟩] scope pos) 0 it acc env) R s := by
  refine codeAny_loop rfl I (fun n s hI => ?_) n h
  show wpAny _ A ((compTurn (.ListComp elt [⟨target, iter, ifs, 0⟩] scope pos) 0 it acc env).onRaise (fun x => do noteFrame x env; theTreesLotGoes x)) _ _ s
  refine wpAny_noted ?_
  rw [compTurn_list]
  refine wpAny_bind (wpAny_standAt (wpAny_bind (wpAny_mono (turn n s hI) (fun r s1 h1 => ?_) fun _ _ h' => h'.elim)))
  cases r with
  | none => exact wpAny_pure h1
  | some v =>
    refine wpAny_bind (wpAny_mono h1 (fun _ s1' h1' => ?_) fun _ _ h' => h'.elim)
    refine wpAny_bind (wpAny_mono h1' (fun _ s2 h2 => wpAny_bind (wpAny_mono h2 (fun ok s3 h3 => ?_) fun _ _ h' => h'.elim)) fun _ _ h' => h'.elim)
    cases ok with
    | false => exact wpAny_pure ⟨rfl, h3⟩
    | true =>
      exact wpAny_bind (wpAny_bind (wpAny_mono h3 (fun x s4 h4 => wpAny_bind (wpAny_mono h4 (fun _ s5 h5 => wpAny_pure (wpAny_pure ⟨rfl, h5⟩)) fun _ _ h' => h'.elim)) fun _ _ h' => h'.elim))
end

/-- the tests of a comprehension's clause -/
def PTs (X : Cx) (ifs : List Expr) (t : TT) : Prop :=
  ∀ (pins : List (Addr × Obj)) (s : Shared) (σ : St) (H : Hp) (Q : Bool → Hp → Prop), Inv X pins σ H s → t σ H Q →
    wpAny (model X.prog X.w) X.A (forIn ifs true fun c r => if r = true then do let ok ← isTrue c X.env (eval c X.env); pure (ForInStep.yield ok) else pure (ForInStep.yield r)) (TP X pins σ Q) X.xe s
def tYes : TT := fun _ H Q => Q true H
theorem pts_nil {X : Cx} : PTs X [] tYes := fun _ _ _ H _ I h => wpAny_tests_nil ⟨H, I, h⟩
theorem pts_one {X : Cx} {c : Expr} {t : TT} (h : PT X c t) : PTs X [c] t := fun pins s σ H Q I hq => wpAny_tests_one (h pins s σ H Q I hq)

/-- a target keeps the slots from n on -/
def GKeeps (n : Nat) (g : TG) : Prop := ∀ v σ H Q, g v σ H Q → g v σ H (fun σ' H' => Q σ' H' ∧ σ'.length = σ.length ∧ ∀ k : Nat, n ≤ k → σ'[k]? = σ[k]?)
theorem gk_name {n i : Nat} (h : i < n) : GKeeps n (gName i) := fun v σ H Q q => ⟨q, by simp, fun k hk => by rw [List.getElem?_set_ne (by omega)]⟩
theorem gk_tup2 {K : PySem.W.Frag} {n i j : Nat} (hi : i < n) (hj : j < n) : GKeeps n (gTup K 2 (gCons (gName i) (gCons (gName j) gNil))) := by
  intro v σ H Q q
  obtain ⟨a, xs, e1, e2, e3, v1, r1, e4, v2, r2, e5, e6, q⟩ := q
  refine ⟨a, xs, e1, e2, e3, v1, r1, e4, v2, r2, e5, e6, q, by simp, fun k hk => ?_⟩
  rw [List.getElem?_set_ne (by omega), List.getElem?_set_ne (by omega)]

def ClOk (cells : List (Str × Addr)) : List (Str × Addr) → Prop
  | [] => True
  | p :: r => cells.lookup p.1 = some p.2 ∧ ClOk cells r
theorem ClOk.look {cells : List (Str × Addr)} : ∀ {cl : List (Str × Addr)}, ClOk cells cl → ∀ x c, cl.lookup x = some c → cells.lookup x = some c
  | [], _, x, c, h => by simp at h
  | (y, d) :: r, ⟨h1, h2⟩, x, c, h => by
    rw [List.lookup_cons] at h
    cases e : x == y with
    | true =>
      rw [e] at h
      have e' : x = y := by simpa using e
      subst e'
      cases h
      exact h1
    | false =>
      rw [e] at h
      exact ClOk.look h2 x c h
def hasC (cl : List (Str × Addr)) (names : List (Str × NameKind)) : Bool := names.all fun p => (p.2 != .cell && p.2 != .free) || (cl.lookup p.1).isSome
theorem hasC.look {cl : List (Str × Addr)} {names : List (Str × NameKind)} (h : hasC cl names = true) {x : Str} (hx : names.lookup x = some .cell ∨ names.lookup x = some .free) : ∃ c, cl.lookup x = some c := by
  unfold hasC at h
  rw [List.all_eq_true] at h
  have aux : ∀ k, names.lookup x = some k → (k = .cell ∨ k = .free) → ∃ c, cl.lookup x = some c := fun k e hk => by
    have q := h (x, k) (PySem.mem_of_lookup e)
    rcases hk with hk | hk
    · subst hk
      exact Option.isSome_iff_exists.mp (by simpa only [bne_self_eq_false, Bool.false_and, Bool.false_or] using q)
    · subst hk
      exact Option.isSome_iff_exists.mp (by simpa only [bne_self_eq_false, Bool.and_false, Bool.false_or] using q)
  rcases hx with hx | hx
  · exact aux _ hx (.inl rfl)
  · exact aux _ hx (.inr rfl)

/-- the block's context: made at C, over the iterator's records fp -/
def cxC (X : Cx) (scope : Scope) (cl : List (Str × Addr)) (NB : List Str) (C : Addr) (fp : List Addr) (s3 : Shared) (H3 : Hp) : Cx :=
  { X with N := NB, s₀ := s3, H₀ := H3, env := compEnvC scope cl C X.env, outer := X.stack, stack := X.stack, ex := fp, fn := fun _ => false, pn := [], xe := fun _ _ => False }

def capV (capN : List Nat) (σ : St) : St := capN.map fun k => (σ[k]?).join
def blk (n : Nat) (capN : List Nat) (σ : St) : St := List.replicate n none ++ capV capN σ

/-- what is written of the block's names -/
structure CompOk (X : Cx) (scope : Scope) (cl : List (Str × Addr)) (NB : List Str) (n : Nat) (capN : List Nat) : Prop where
  clos : closureFor scope X.env = pure cl
  cell : ∀ y ∈ scope.names, y.2 ≠ .cell
  kind : scope.kind = .function
  names : ∀ y ∈ scope.names, y.2 = .local → scope.names.lookup y.1 = some .local
  clok : ClOk X.env.cells cl
  has : hasC cl (relabel scope X.env).names = true
  len : NB.length = n + capN.length
  cap : (NB.drop n).map some = capN.map fun k => X.N[k]?
  outk : (capN.all fun k => match X.N[k]? with | some x => X.env.scope.names.lookup x == some .cell || X.env.scope.names.lookup x == some .free | none => false) = true
  ink : ((NB.drop n).all fun x => (relabel scope X.env).names.lookup x == some .cell || (relabel scope X.env).names.lookup x == some .free) = true

def tComp (wi : TI) (n : Nat) (capN : List Nat) (g : TG) (tt : TT) (te : TE) : TE := fun σ H Q => wi σ H fun J H1 => ∀ p, H1 p = none →
  ∃ W : Nat → Nat → List V → Hp → Prop, (∃ m, W 0 m [] (upd H1 p (.lst []))) ∧ ∀ i m ys H, W i m ys H → H p = some (.lst ys) ∧
    ((J.stop i H ∧ Q (.ref p) H) ∨ (J.go i H ∧ ys.length < sizeLine ∧ ∃ N : List V → Hp → Prop, (∀ ys' H', N ys' H' → ∃ m', m' < m ∧ W (i + 1) m' ys' H') ∧ ∀ x H', J.yld i H x H' → g x (blk n capN σ) H' fun σ2 H2 => tt σ2 H2 fun b H3 =>
      if b = true then te σ2 H3 fun y H4 => H4 p = some (.lst ys) ∧ N (ys ++ [y]) (upd H4 p (.lst (ys ++ [y]))) else N ys H3))

theorem capV_get {capN : List Nat} {σ : St} {j : Nat} {v : V} (h : (capV capN σ)[j]? = some (some v)) : ∃ k, capN[j]? = some k ∧ σ[k]? = some (some v) := by
  unfold capV at h
  rw [List.getElem?_map] at h
  cases e : capN[j]? with
  | none => rw [e] at h; cases h
  | some k =>
    rw [e] at h
    refine ⟨k, rfl, ?_⟩
    have h : (σ[k]?).join = some v := Option.some.inj h
    cases q : σ[k]? with
    | none => rw [q] at h; cases h
    | some o => rw [q] at h; exact congrArg some h

section
variable {X : Cx} {pins : List (Addr × Obj)} {σ : St} {H : Hp} {s : Shared} {scope : Scope} {cl : List (Str × Addr)} {NB : List Str} {n : Nat} {capN : List Nat}

/-- the block's context at its entry -/
theorem cxC_ok (I : Inv X pins σ H s) (D : CompOk X scope cl NB n capN) {fp : List Addr} (hfp : ∀ b ∈ fp, FpOk X pins H b) (hlt : ∀ b ∈ fp, b < s.heap.objs.size) :
    (cxC X scope cl NB s.heap.objs.size fp s H).Ok where
  mod := I.ok.mod
  kind := D.kind
  glob := I.ok.glob
  blt := I.ok.blt
  above := Nat.le_refl _
  inj := fun x y c h1 h2 => I.ok.inj x y c (D.clok.look x c h1) (D.clok.look y c h2)
  has := fun x hx => hasC.look D.has hx
  cab := fun x c h => by cases h
  hd := I.ok.hd
  frames := I.ok.frames
  stk := .inl rfl
  exf := fun b hb => ⟨Nat.ne_of_lt (hlt b hb), fun x c h => (hfp b hb).2.2.2.2.1 x c (D.clok.look x c h)⟩
  bs := I.bs
  bsz := Nat.le_trans I.ok.bsz I.sz
  noex := fun b o e hb => by
    rcases (hfp b hb).2.2.2.1 with z | z
    · exact I.ok.noex b o e z
    · exact absurd (Nat.lt_of_lt_of_le (Heap.lt_size e) (Nat.le_trans I.ok.bsz z)) (Nat.lt_irrefl _)
  exfs := fun b hb z => (List.mem_cons.mp (I.stkSub b z)).elim (hfp b hb).2.1 (hfp b hb).2.2.1
  funs := I.stack
  frf := I.stkFree

theorem cxC_inv (I : Inv X pins σ H s) (D : CompOk X scope cl NB n capN) {fp : List Addr} (hfp : ∀ b ∈ fp, FpOk X pins H b) (hlt : ∀ b ∈ fp, b < s.heap.objs.size) {h1 : Heap} {t1 : Nat}
    (hns : h1.Ns s.heap.objs.size (fun _ => none)) (old : ∀ b o, s.heap.get? b = some o → h1.get? b = some o) :
    Inv (cxC X scope cl NB s.heap.objs.size fp s H) [] (blk n capN σ) H { s with heap := h1, toks := t1 } := by
  have hcell : ∀ x c, cl.lookup x = some c → X.env.cells.lookup x = some c := fun x c h => D.clok.look x c h
  refine ⟨cxC_ok I D hfp hlt, rfl, I.bare, Un.kept old, ⟨_, hns, fun i x v e1 e2 e3 => ?_⟩, fun x c e => ?_, I.hok.fresh (Nat.le_refl _), fun x c e => I.freeC x c (hcell x c e), fun p hp => absurd (show p ∈ ([] : List (Addr × Obj)) from hp) (by simp), I.hok.kept old, ?_⟩
  · -- a captured name
    have e1 : NB[i]? = some x := e1
    have hi : ¬ i < n := fun hi => by
      unfold blk at e2
      rw [List.getElem?_append_left (by simpa using hi), List.getElem?_replicate, if_pos hi] at e2
      cases e2
    have hi' : n ≤ i := Nat.not_lt.mp hi
    have e2' : (capV capN σ)[i - n]? = some (some v) := by
      unfold blk at e2
      rw [List.getElem?_append_right (by simpa using hi')] at e2
      simpa using e2
    obtain ⟨k, hk, hv⟩ := capV_get e2'
    have en : (NB.drop n)[i - n]? = some x := by rw [List.getElem?_drop, show n + (i - n) = i by omega]; exact e1
    have exx : X.N[k]? = some x := by
      have q := congrArg (fun l => l[i - n]?) D.cap
      simp only [List.getElem?_map, en, hk, Option.map_some] at q
      exact (Option.some.inj q).symm
    have ik : (relabel scope X.env).names.lookup x = some .cell ∨ (relabel scope X.env).names.lookup x = some .free := by
      have q := List.all_eq_true.mp D.ink x (List.mem_of_getElem? en)
      simpa using q
    have ok : X.env.scope.names.lookup x = some .cell ∨ X.env.scope.names.lookup x = some .free := by
      have q := List.all_eq_true.mp D.outk k (List.mem_of_getElem? hk)
      rw [exx] at q
      simpa using q
    obtain ⟨m, hn, hl⟩ := I.loc
    obtain ⟨u, r, l⟩ := hl k x v exx hv (ok.elim (fun z => .inr (.inl z)) fun z => .inr (.inr z))
    obtain ⟨c, hc⟩ := hasC.look D.has ik
    have hc' := hcell x c hc
    refine ⟨u, r, .inr ⟨ik, c, hc, ?_⟩⟩
    rcases l with ⟨k1, _⟩ | ⟨_, c', ec, z⟩
    · have k1 : X.env.scope.names.lookup x = some .local := k1
      rcases ok with ok | ok <;> (rw [ok] at k1; cases k1)
    · rw [hc'] at ec
      cases ec
      obtain ⟨o, ho, hd⟩ := z
      exact ⟨o, old _ _ ho, hd⟩
  · obtain ⟨v, o, ho, hd⟩ := I.cell x c (hcell x c e)
    exact ⟨v, o, old _ _ ho, hd⟩
  · show (blk n capN σ).length = NB.length
    unfold blk capV
    rw [D.len, List.length_append, List.length_replicate, List.length_map]

/-- back in the frame, behind the block -/
theorem cxC_back (I : Inv X pins σ H s) {fp : List Addr} (hfp : ∀ b ∈ fp, FpOk X pins H b) {σ1 : St} {H1 : Hp} {s1 : Shared} {ps1 : List (Addr × Obj)}
    (J : Inv (cxC X scope cl NB s.heap.objs.size fp s H) ps1 σ1 H1 s1) : Inv X pins σ H1 s1 :=
  I.call' J.os J.base J.hok J.bare fun b hb => ⟨(hfp b hb).2.2.2.1, (hfp b hb).2.1, (hfp b hb).2.2.2.2.1, (hfp b hb).2.2.2.2.2⟩
end

section
variable {X : Cx} {pins : List (Addr × Obj)} {σ : St} {H : Hp} {s : Shared} {scope : Scope} {cl : List (Str × Addr)} {NB : List Str} {n : Nat} {capN : List Nat} {tg iter elt : Expr} {ifs : List Expr} {pos : Pos} {wi : TI} {g : TG} {tt : TT} {te : TE}

/-- the block runs: what is behind it -/
theorem comp_run (D : CompOk X scope cl NB n capN) (hc : X.calm = true) (gk : GKeeps n g)
    (hg : ∀ C fp s3 H3, PG (cxC X scope cl NB C fp s3 H3) tg g) (ht : ∀ C fp s3 H3, PTs (cxC X scope cl NB C fp s3 H3) ifs tt) (he : ∀ C fp s3 H3, PE (cxC X scope cl NB C fp s3 H3) elt te)
    {it : Addr} {fp : List Addr} {tn : Nat → Heap → Prop} {J : It} {Q : VK} {RR : Value → Addr → Result → Shared → Prop} {E : Value → Shared → Prop}
    (I : Inv X pins σ H s) (T : Turn X.prog X.w X.K tg J fp it tn) (st : tn 0 s.heap) (hf : ∀ b ∈ fp, FpOk X pins H b)
    (q : ∀ p, H p = none → ∃ W : Nat → Nat → List V → Hp → Prop, (∃ m, W 0 m [] (upd H p (.lst []))) ∧ ∀ i m ys H, W i m ys H → H p = some (.lst ys) ∧
      ((J.stop i H ∧ Q (.ref p) H) ∨ (J.go i H ∧ ys.length < sizeLine ∧ ∃ N : List V → Hp → Prop, (∀ ys' H', N ys' H' → ∃ m', m' < m ∧ W (i + 1) m' ys' H') ∧ ∀ x H', J.yld i H x H' → g x (blk n capN σ) H' fun σ2 H2 => tt σ2 H2 fun b H3 =>
        if b = true then te σ2 H3 fun y H4 => H4 p = some (.lst ys) ∧ N (ys ++ [y]) (upd H4 p (.lst (ys ++ [y]))) else N ys H3)))
    (hRR : ∀ (p C : Addr) (H1 : Hp) (s1 : Shared) (m1 : Str → Option Value), Inv X pins σ H1 s1 → s1.heap.Ns C m1 → H1 C = none → s.heap.objs.size ≤ C → Q (.ref p) H1 → RR (.ref p) C (.ok .next) s1) :
    wpAny (model X.prog X.w) X.A (newList []) (fun acc s3 => wpAny (model X.prog X.w) X.A (newFunctionEnv scope X.env.globals cl [] X.env.qual none .none (some X.env)) (fun cenv s4 =>
      codeAny (model X.prog X.w) X.A (.compStart (.ListComp elt [⟨tg, iter, ifs, 0⟩] scope pos) 0 (.ref it) acc { cenv with scope := relabel scope X.env }) (RR acc cenv.locals) s4) E s3) E s := by
  have hlt : ∀ b ∈ fp, b < s.heap.objs.size := fun b hb => by
    obtain ⟨o, e, _⟩ := T.obj 0 _ st b hb
    exact Heap.lt_size e
  refine wpAny_newObj_type ?_
  generalize hp : s.heap.objs.size = p
  have hfree : H p = none := by rw [← hp]; exact I.fresh
  obtain ⟨W, ⟨m0, w0⟩, turn⟩ := q p hfree
  have I3 : Inv X pins σ (upd H p (.lst [])) { s with heap := s.heap.push { cls := .type "list", data := .seq ([] : List Value).toArray } } := by
    rw [← hp]
    exact I.lnew (t' := s.toks) (ys := []) (its := []) .nil (Nat.zero_le _)
  generalize hs3 : ({ s with heap := s.heap.push { cls := .type "list", data := .seq ([] : List Value).toArray } } : Shared) = s3 at I3
  have hsz3 : s3.heap.objs.size = p + 1 := by rw [← hs3, ← hp]; exact Heap.size_push ..
  have old3 : ∀ b o, s.heap.get? b = some o → s3.heap.get? b = some o := fun b o e => by rw [← hs3]; exact Heap.get?_push_of_some _ e
  have fne : ∀ b ∈ fp, b ≠ p := fun b hb => by rw [← hp]; exact Nat.ne_of_lt (hlt b hb)
  have hf3 : ∀ b ∈ fp, FpOk X pins (upd H p (.lst [])) b := fun b hb => ⟨by rw [upd_ne (fne b hb)]; exact (hf b hb).1, (hf b hb).2⟩
  have hlt3 : ∀ b ∈ fp, b < s3.heap.objs.size := fun b hb => by rw [hsz3, ← hp]; exact Nat.lt_succ_of_lt (hlt b hb)
  refine wpAny_newFunctionEnv D.cell (by intro y hy; simp at hy) (fun h1 hns hsb => ?_) D.kind
  have old4 : ∀ b o, s3.heap.get? b = some o → h1.get? b = some o := fun b o e => hsb.extBut b o (Nat.ne_of_lt (Heap.lt_size e)) (Heap.get?_push_of_some _ e)
  have hns' : h1.Ns s3.heap.objs.size (fun _ => none) := by
    have e : (fun x => ([] : List (Str × Value)).reverse.lookup x) = (fun _ => none) := by funext x; rfl
    rw [← e]
    exact hns
  have J0 := cxC_inv (t1 := s3.toks + ([] : List (Str × Value)).length) I3 D hf3 hlt3 hns' old4
  have st4 : tn 0 h1 := T.keep _ _ _ st fun b hb o e => old4 b o (old3 b o e)
  have stat : ∀ {H' : Hp} {ps : List (Addr × Obj)}, ps = [] → (∀ b ∈ fp, H' b = none) → ∀ b ∈ fp, FpOk (cxC X scope cl NB s3.heap.objs.size fp s3 (upd H p (.lst []))) ps H' b := fun {H' ps} hps hn b hb => by
    have z := (cxC_ok I3 D hf3 hlt3)
    exact ⟨hn b hb, (z.exf b hb).1, z.exfs b hb, .inl hb, fun x c e => (z.exf b hb).2 x c e, fun p' hp' => by rw [hps] at hp'; exact absurd (show p' ∈ ([] : List (Addr × Obj)) from hp') (by simp)⟩
  have loop : codeAny (model X.prog X.w) X.A (.compLoop (.ListComp elt [⟨tg, iter, ifs, 0⟩] scope pos) 0 (.ref it) (.ref p) (compEnvC scope cl s3.heap.objs.size X.env)) (RR (.ref p) s3.heap.objs.size)
      { s3 with heap := h1, toks := s3.toks + ([] : List (Str × Value)).length } := by
    refine compLoop_own (fun k s' => ∃ i ys H', Inv (cxC X scope cl NB s3.heap.objs.size fp s3 (upd H p (.lst []))) [] (blk n capN σ) H' s' ∧ tn i s'.heap ∧ (∀ b ∈ fp, H' b = none) ∧ W i k ys H') ?_ m0
      ⟨0, [], _, J0, st4, fun b hb => (hf3 b hb).1, w0⟩
    rintro k s5 ⟨i, ys, H5, I5, st5, fr5, w5⟩
    obtain ⟨hacc, ways⟩ := turn i k ys H5 w5
    rcases ways with ⟨stop, qn⟩ | ⟨go, hz, N, hN, step⟩
    · refine thn (T.done (cxC X scope cl NB s3.heap.objs.size fp s3 (upd H p (.lst []))) rfl rfl rfl hc i [] s5 _ H5 (fun _ _ => False) I5 (stat rfl fr5) st5 stop) fun r s6 ⟨hr, I6⟩ => ?_
      subst hr
      obtain ⟨m6, n6, _⟩ := id I6.loc
      exact hRR p _ H5 s6 m6 (cxC_back I3 hf3 I6) n6 I6.free (by rw [hsz3, ← hp]; exact Nat.le_succ _) qn
    · refine thn (T.item (cxC X scope cl NB s3.heap.objs.size fp s3 (upd H p (.lst []))) rfl rfl rfl hc i [] s5 _ H5 (fun _ _ => False) I5 (stat rfl fr5) st5 go) fun r s6 ⟨u, hr, h6⟩ => ?_
      subst hr
      refine thn h6 fun _ s7 ⟨x, H7, I7, r7, y7, st7, fr7⟩ => ?_
      have I7' := I7.pinned (stat rfl fr7) (T.obj _ _ st7)
      refine thn (hg _ _ _ _ _ s7 _ H7 x u _ I7' r7 (gk x _ H7 _ (step x H7 y7))) fun _ s8 ⟨σ8, H8, I8, q8, hl8, hk8⟩ => ?_
      have back : ∀ {s9 : Shared} {H9 : Hp} {m' : Nat} {ys' : List V}, Inv (cxC X scope cl NB s3.heap.objs.size fp s3 (upd H p (.lst []))) ([] ++ pinsAt fp s7.heap) σ8 H9 s9 → m' < k → W (i + 1) m' ys' H9 →
          ∃ m, m < k ∧ ∃ i ys H', Inv (cxC X scope cl NB s3.heap.objs.size fp s3 (upd H p (.lst []))) [] (blk n capN σ) H' s9 ∧ tn i s9.heap ∧ (∀ b ∈ fp, H' b = none) ∧ W i m ys H' := fun {s9 H9 m' ys'} I9 hm w9 => by
        have I9' : Inv (cxC X scope cl NB s3.heap.objs.size fp s3 (upd H p (.lst []))) [] σ8 H9 s9 := I9.unpinned
        refine ⟨m', hm, i + 1, ys', H9, I9'.weak hl8.symm fun j v e => ?_, T.keep _ _ _ st7 fun b hb o e => (I9.pin (b, o) (List.mem_append_right _ (List.mem_append_right _ (mem_pinsAt hb e)))).1, fun b hb => ?_, w9⟩
        · by_cases hj : j < n
          · unfold blk at e
            rw [List.getElem?_append_left (by simpa using hj), List.getElem?_replicate, if_pos hj] at e
            cases e
          · rw [hk8 j (Nat.not_lt.mp hj)]; exact e
        · obtain ⟨o, e, d⟩ := T.obj _ _ st7 b hb
          exact (I9.pin (b, o) (List.mem_append_right _ (List.mem_append_right _ (mem_pinsAt hb e)))).2.1
      refine thn (ht _ _ _ _ _ s8 σ8 H8 _ I8 q8) fun ok s9 ⟨H9, I9, q9⟩ => ?_
      cases ok with
      | false =>
        simp only [Bool.false_eq_true, if_false] at q9 ⊢
        obtain ⟨m', hm, w9⟩ := hN _ _ q9
        exact back I9 hm w9
      | true =>
        simp only [if_true] at q9 ⊢
        refine thn (he _ _ _ _ _ s9 σ8 H9 _ I9 q9) fun y s10 ⟨v10, H10, I10, r10, a10, w10⟩ => ?_
        have z := mt_append (X := cxC X scope cl NB s3.heap.objs.size fp s3 (upd H p (.lst []))) _ s10 σ8 H10 (.ref p) [v10] (.ref p) [y] (fun _ H' => N (ys ++ [v10]) H') I10 rfl (.cons r10 .nil) ⟨p, ys, v10, rfl, rfl, a10, hz, w10⟩
        refine thn z fun _ s11 ⟨_, H11, I11, _, w11⟩ => ?_
        obtain ⟨m', hm, w11⟩ := hN _ _ w11
        exact back I11 hm w11
  show codeAny _ _ (.compStart (.ListComp elt [⟨tg, iter, ifs, 0⟩] scope pos) 0 (.ref it) (.ref p) (compEnvC scope cl s3.heap.objs.size X.env)) (RR (.ref p) s3.heap.objs.size) { s3 with heap := h1, toks := s3.toks + ([] : List (Str × Value)).length }
  exact codeAny_compStart_list loop (T.self _ 0 _ _ _ st4 loop)

/-- [elt for tg in iter if ..] -/
theorem pe_comp (D : CompOk X scope cl NB n capN) (hc : X.calm = true) (gk : GKeeps n g) (hi : PI X tg iter wi)
    (hg : ∀ C fp s3 H3, PG (cxC X scope cl NB C fp s3 H3) tg g) (ht : ∀ C fp s3 H3, PTs (cxC X scope cl NB C fp s3 H3) ifs tt) (he : ∀ C fp s3 H3, PE (cxC X scope cl NB C fp s3 H3) elt te)
    (hs : ∀ x, foldedSetIterable iter X.env x = pure x := by intro _; rfl) : PE X (.ListComp elt [⟨tg, iter, ifs, 0⟩] scope pos) (tComp wi n capN g tt te) := by
  intro pins s σ H Q I h
  rw [eval_ListComp]
  refine wpAny_comprehension_free (use := none) rfl hs D.clos D.kind D.names (thn (hi pins s σ H _ I h) fun v s1 h1 => thn h1 fun itv s2 h2 => ?_)
  obtain ⟨it, fp, tn, J, H2, e, I2, T, st2, f2, q2⟩ := h2
  subst e
  refine comp_run (RR := fun acc C => compPost (model X.prog X.w) X.A X.xe none (EP X pins σ Q) acc C) (Q := Q) D hc gk hg ht he I2 T st2 f2 q2 fun p C H1 s1 m1 J1 n1 f1 hC q1 => ?_
  refine ⟨m1, n1, fun h' hs' => ⟨.ref p, H1, ?_, rfl, q1⟩⟩
  have hCL : s2.heap.objs.size ≤ C := hC
  have ff := I2.fpOk hCL (H' := H1) f1
  exact J1.turned (t' := s1.toks) (fun b o hb e => hs'.extBut b o hb e) f1 ff.2.1 ff.2.2.2.1 ff.2.2.2.2.1 ff.2.2.2.2.2
end

/-! ### the forms one uses -/
section
variable {K : PySem.W.Frag} {a p : Addr} {xs : List V} {n : Nat} {capN : List Nat} {g : TG} {tt : TT} {te : TE} {σ : St} {H1 : Hp} {QH : Hp → Prop}
/-- over a list that stays -/
theorem comp_list (Pv : Nat → List V → Hp → Prop) (h0 : Pv 0 [] (upd H1 p (.lst []))) (hl : ∀ i ys H, i ≤ xs.length → Pv i ys H → SqL K H a xs ∧ H p = some (.lst ys) ∧ ys.length ≤ i) (hsz : xs.length ≤ sizeLine)
    (hs : ∀ i x ys H, xs[i]? = some x → Pv i ys H → g x (blk n capN σ) H fun σ2 H2 => tt σ2 H2 fun b H3 => if b = true then te σ2 H3 fun y H4 => H4 p = some (.lst ys) ∧ Pv (i + 1) (ys ++ [y]) (upd H4 p (.lst (ys ++ [y]))) else Pv (i + 1) ys H3)
    (hd : ∀ ys H, Pv xs.length ys H → QH H) :
    ∃ W : Nat → Nat → List V → Hp → Prop, (∃ m, W 0 m [] (upd H1 p (.lst []))) ∧ ∀ i m ys H, W i m ys H → H p = some (.lst ys) ∧
      (((Itl K a).stop i H ∧ QH H) ∨ ((Itl K a).go i H ∧ ys.length < sizeLine ∧ ∃ N : List V → Hp → Prop, (∀ ys' H', N ys' H' → ∃ m', m' < m ∧ W (i + 1) m' ys' H') ∧ ∀ x H', (Itl K a).yld i H x H' → g x (blk n capN σ) H' fun σ2 H2 => tt σ2 H2 fun b H3 =>
        if b = true then te σ2 H3 fun y H4 => H4 p = some (.lst ys) ∧ N (ys ++ [y]) (upd H4 p (.lst (ys ++ [y]))) else N ys H3)) := by
  refine ⟨fun i m ys H => m = xs.length - i ∧ i ≤ xs.length ∧ Pv i ys H, ⟨xs.length, by simp, Nat.zero_le _, h0⟩, ?_⟩
  rintro i m ys H ⟨rfl, hi, pv⟩
  obtain ⟨q, qp, ql⟩ := hl i ys H hi pv
  refine ⟨qp, ?_⟩
  by_cases hlt : i < xs.length
  · refine .inr ⟨⟨xs, xs[i], q, by simp [hlt]⟩, by omega, Pv (i + 1), fun ys' H' p' => ⟨xs.length - (i + 1), by omega, rfl, hlt, p'⟩, fun x H' y => ?_⟩
    obtain ⟨e, y⟩ := y
    subst e
    exact hs i x ys _ (y xs q) pv
  · have e : i = xs.length := by omega
    subst e
    exact .inl ⟨⟨xs, q, Nat.le_refl _⟩, hd ys H pv⟩
theorem comp_tup (Pv : Nat → List V → Hp → Prop) (h0 : Pv 0 [] (upd H1 p (.lst []))) (hl : ∀ i ys H, i ≤ xs.length → Pv i ys H → SqT K H a xs ∧ H p = some (.lst ys) ∧ ys.length ≤ i) (hsz : xs.length ≤ sizeLine)
    (hs : ∀ i x ys H, xs[i]? = some x → Pv i ys H → g x (blk n capN σ) H fun σ2 H2 => tt σ2 H2 fun b H3 => if b = true then te σ2 H3 fun y H4 => H4 p = some (.lst ys) ∧ Pv (i + 1) (ys ++ [y]) (upd H4 p (.lst (ys ++ [y]))) else Pv (i + 1) ys H3)
    (hd : ∀ ys H, Pv xs.length ys H → QH H) :
    ∃ W : Nat → Nat → List V → Hp → Prop, (∃ m, W 0 m [] (upd H1 p (.lst []))) ∧ ∀ i m ys H, W i m ys H → H p = some (.lst ys) ∧
      (((Itt K a).stop i H ∧ QH H) ∨ ((Itt K a).go i H ∧ ys.length < sizeLine ∧ ∃ N : List V → Hp → Prop, (∀ ys' H', N ys' H' → ∃ m', m' < m ∧ W (i + 1) m' ys' H') ∧ ∀ x H', (Itt K a).yld i H x H' → g x (blk n capN σ) H' fun σ2 H2 => tt σ2 H2 fun b H3 =>
        if b = true then te σ2 H3 fun y H4 => H4 p = some (.lst ys) ∧ N (ys ++ [y]) (upd H4 p (.lst (ys ++ [y]))) else N ys H3)) := by
  refine ⟨fun i m ys H => m = xs.length - i ∧ i ≤ xs.length ∧ Pv i ys H, ⟨xs.length, by simp, Nat.zero_le _, h0⟩, ?_⟩
  rintro i m ys H ⟨rfl, hi, pv⟩
  obtain ⟨q, qp, ql⟩ := hl i ys H hi pv
  refine ⟨qp, ?_⟩
  by_cases hlt : i < xs.length
  · refine .inr ⟨⟨xs, xs[i], q, by simp [hlt]⟩, by omega, Pv (i + 1), fun ys' H' p' => ⟨xs.length - (i + 1), by omega, rfl, hlt, p'⟩, fun x H' y => ?_⟩
    obtain ⟨e, y⟩ := y
    subst e
    exact hs i x ys _ (y xs q) pv
  · have e : i = xs.length := by omega
    subst e
    exact .inl ⟨⟨xs, q, Nat.le_refl _⟩, hd ys H pv⟩
theorem comp_range {lo : Int} {k : Nat} (Pv : Nat → List V → Hp → Prop) (h0 : Pv 0 [] (upd H1 p (.lst []))) (hl : ∀ i ys H, i ≤ k → Pv i ys H → H p = some (.lst ys) ∧ ys.length ≤ i) (hsz : k ≤ sizeLine)
    (hs : ∀ i ys H, i < k → Pv i ys H → g (.int (lo + i)) (blk n capN σ) H fun σ2 H2 => tt σ2 H2 fun b H3 => if b = true then te σ2 H3 fun y H4 => H4 p = some (.lst ys) ∧ Pv (i + 1) (ys ++ [y]) (upd H4 p (.lst (ys ++ [y]))) else Pv (i + 1) ys H3)
    (hd : ∀ ys H, Pv k ys H → QH H) :
    ∃ W : Nat → Nat → List V → Hp → Prop, (∃ m, W 0 m [] (upd H1 p (.lst []))) ∧ ∀ i m ys H, W i m ys H → H p = some (.lst ys) ∧
      (((Itr lo k).stop i H ∧ QH H) ∨ ((Itr lo k).go i H ∧ ys.length < sizeLine ∧ ∃ N : List V → Hp → Prop, (∀ ys' H', N ys' H' → ∃ m', m' < m ∧ W (i + 1) m' ys' H') ∧ ∀ x H', (Itr lo k).yld i H x H' → g x (blk n capN σ) H' fun σ2 H2 => tt σ2 H2 fun b H3 =>
        if b = true then te σ2 H3 fun y H4 => H4 p = some (.lst ys) ∧ N (ys ++ [y]) (upd H4 p (.lst (ys ++ [y]))) else N ys H3)) := by
  refine ⟨fun i m ys H => m = k - i ∧ i ≤ k ∧ Pv i ys H, ⟨k, by simp, Nat.zero_le _, h0⟩, ?_⟩
  rintro i m ys H ⟨rfl, hi, pv⟩
  obtain ⟨qp, ql⟩ := hl i ys H hi pv
  refine ⟨qp, ?_⟩
  by_cases hlt : i < k
  · refine .inr ⟨hlt, by omega, Pv (i + 1), fun ys' H' p' => ⟨k - (i + 1), by omega, rfl, hlt, p'⟩, fun x H' y => ?_⟩
    obtain ⟨e, y⟩ := y
    subst e y
    exact hs i ys _ hlt pv
  · have e : i = k := by omega
    subst e
    exact .inl ⟨Nat.le_refl _, hd ys H pv⟩
end
end L2

namespace L2
open PySem PySem.Spec PyProof.Rows

theorem vals_ix : ∀ {xs : List V} {us : List Value}, xs.length = us.length → (∀ (j : Nat) x u, xs[j]? = some x → us[j]? = some u → RelV x u) → Vals xs us
  | [], [], _, _ => .nil
  | [], _ :: _, h, _ => by simp at h
  | _ :: _, [], h, _ => by simp at h
  | x :: xs, u :: us, h, r => .cons (r 0 x u rfl rfl) (vals_ix (by simpa using h) fun j y v e1 e2 => r (j + 1) y v (by simpa using e1) (by simpa using e2))

theorem preSum_eq (val : Nat → Int) : ∀ (ns : List Int), (∀ (j : Nat) n, ns[j]? = some n → val j = n) → preSum val ns.length = ns.sum := by
  have key : ∀ (k : Nat) (ns : List Int), k ≤ ns.length → (∀ (j : Nat) n, ns[j]? = some n → val j = n) → preSum val k = (ns.take k).sum := by
    intro k
    induction k with
    | zero => intro ns _ _; simp [preSum]
    | succ k ih =>
      intro ns hk h
      have hlt : k < ns.length := hk
      rw [preSum, ih ns (Nat.le_of_lt hlt) h, h k ns[k] (by simp [hlt]), List.take_succ_eq_append_getElem hlt, List.sum_append]
      simp
  intro ns h
  rw [key ns.length ns (Nat.le_refl _) h, List.take_length]

section
variable {X : Cx}

/-- list(d), a dict whose keys are ints or texts -/
theorem call_list_dict (hc : X.calm = true) : CallR X (.type "list") (fun xs H Q => ∃ a kvs, xs = [.ref a] ∧ H a = some (.dK kvs) ∧ ∀ l, H l = none → Q (.ref l) (upd H l (.lst (kvs.map fun kv => kV kv.1)))) := by
  intro pins s σ H xs us Q I r h
  obtain ⟨a, kvs, rfl, ha, q⟩ := h
  obtain ⟨u, rfl, rx⟩ := vals1 r
  cases rx
  obtain ⟨hz, hsm, vs, kv, dd⟩ := dk_of I.hok ha
  obtain ⟨ep, hat⟩ := dd.dictAt
  refine PySem.W.kdl_call (PySem.W.kdl_dict (knd := mixKind X.prog X.w) (kvs := vs) (ep := ep) hsm) (I.ok.hd hc) hat (by rw [← kv.length]; exact hz) fun h' tk acc c kp e hacc => ?_
  have rv : Vals (kvs.map fun kv => kV kv.1) acc.toList := by
    refine vals_ix (by rw [List.length_map]; have := hacc.1; have := kv.length; simp; omega) fun j x u e1 e2 => ?_
    obtain ⟨k, y, e3, hk⟩ := hacc.2 j u (by rw [← Array.getElem?_toList]; exact e2)
    have e4 : (kvs.map (·.1))[j]? = some k := by rw [kv.keys, List.getElem?_map, e3]; rfl
    rw [List.getElem?_map] at e1 e4
    cases e5 : kvs[j]? with
    | none => rw [e5] at e1; cases e1
    | some p =>
      rw [e5] at e1 e4
      cases e1
      cases e4
      rcases keyIs_shape hk with ⟨i, t, e6, rfl⟩ | ⟨z, t, e6, rfl⟩
      · show RelV (kV p.1) _
        rw [show p.1 = Sum.inl i from e6]
        exact ⟨t, rfl⟩
      · show RelV (kV p.1) _
        rw [show p.1 = Sum.inr z from e6]
        exact ⟨t, rfl⟩
  refine ⟨.ref s.heap.objs.size, _, I.laid (t' := tk) kp (Nat.le_refl _) (show ObjOk X.prog X.w _ h' _ (.lst (kvs.map fun kv => kV kv.1)) from ⟨by rw [List.length_map]; exact hz, acc.toList, c, rv, by simpa using e⟩), rfl, q _ I.fresh⟩

/-- sorted of a list of ints -/
theorem call_sorted_ints : CallR X (.builtin "sorted") (fun xs H Q => ∃ (a : Addr) (ns : List Int), xs = [.ref a] ∧ SqL X.K H a (ns.map V.int) ∧ ns.length < 64 ∧ ∀ (ms : List Int) l, ms.Perm ns → ms.Pairwise (· ≤ ·) → H l = none → Q (.ref l) (upd H l (.lst (ms.map V.int)))) := by
  intro pins s σ H xs us Q I r h
  obtain ⟨a, ns, rfl, ha, hl, q⟩ := h
  obtain ⟨u, rfl, rx⟩ := vals1 r
  cases rx
  obtain ⟨its, rv, pl, hz⟩ := I.list ha
  have hlen := rv.length
  rw [List.length_map] at hlen
  refine sorted_ints pl.isList (intsAre_of rv) (by omega) fun out ms hi hp hs => ?_
  obtain ⟨e, he⟩ := sortedAll_at s.heap its out
  have rv2 := vals_ints hi
  refine ⟨.ref (s.heap.objs.size + 1), _, I.laid (t' := s.toks) (fun b o e => sortedAll_old e) (Nat.le_succ _) (show ObjOk X.prog X.w _ _ _ (.lst (ms.map V.int)) from ⟨?_, out.toList, e, rv2, by simpa using he⟩), rfl, q ms _ hp hs (I.hok.fresh (Nat.le_succ _))⟩
  rw [List.length_map, hp.length_eq]
  exact Nat.le_of_lt (Nat.lt_of_lt_of_le hl (by decide))

/-- the view of a dict's values -/
def viewO (v a : Addr) : HO := .ext fun h => h.IsValuesView v a
theorem view_at {pins : List (Addr × Obj)} {σ : St} {H : Hp} {s : Shared} {v a : Addr} (I : Inv X pins σ H s) (h : H v = some (viewO v a)) : s.heap.IsValuesView v a := (show ObjOk X.prog X.w H s.heap v (.ext fun h => h.IsValuesView v a) from I.hok v _ h).1
theorem mt_values : MtR X "dict.values" (fun x xs H Q => ∃ a kvs, x = .ref a ∧ xs = [] ∧ H a = some (.dK kvs) ∧ ∀ v, H v = none → Q (.ref v) (upd H v (viewO v a))) := by
  intro pins s σ H x xs v us Q I rx rv h
  obtain ⟨a, kvs, rfl, rfl, ha, q⟩ := h
  cases rx
  cases rv
  obtain ⟨hz, hsm, vs, kv, dd⟩ := dk_of I.hok ha
  refine call_meetsIn PySem.F.slot_dict_values dd.typeIs PySem.F.entry_dict_values (PySem.F.args_dict_values_1 _) (meets_dict_values (mixKind X.prog X.w) a hsm) ⟨⟨_, dd⟩, ?_⟩
  refine ⟨.ref s.heap.objs.size, _, I.laid (t' := s.toks) (fun b o e => Heap.get?_push_of_some _ e) (Nat.le_refl _) ?_, rfl, q _ I.fresh⟩
  have e : (s.heap.push { cls := .type "dict_values", data := .fields #[.ref a] }).get? s.heap.objs.size = some { cls := .type "dict_values", data := .fields #[.ref a] } := Heap.get?_push_size _ rfl
  exact ⟨⟨_, e, rfl, rfl⟩, ⟨_, e⟩, fun h1 h2 ⟨o, p1, p2⟩ k => ⟨o, k o p1, p2⟩⟩

/-- sum of a dict's values, ints -/
theorem call_sum_view (hc : X.calm = true) : CallR X (.builtin "sum") (fun xs H Q => ∃ (v a : Addr) (kvs : List (Key × V)) (ns : List Int), xs = [.ref v] ∧ H v = some (viewO v a) ∧ H a = some (.dK kvs) ∧ kvs.map (·.2) = ns.map V.int ∧ Q (.int ns.sum) H) := by
  intro pins s σ H xs us Q I r h
  obtain ⟨v, a, kvs, ns, rfl, hv, ha, hn, q⟩ := h
  obtain ⟨u, rfl, rx⟩ := vals1 r
  cases rx
  obtain ⟨hz, hsm, vs, kv, dd⟩ := dk_of I.hok ha
  obtain ⟨ep, hat⟩ := dd.dictAt
  have hlen : kvs.length = ns.length := by
    have := congrArg List.length hn
    simpa using this
  refine call_sum_walkAnyS (wpAny_pyIter_values (view_at I hv) hat ?_)
  have hne : a ≠ s.heap.objs.size := Nat.ne_of_lt (I.hok.lt ha)
  have st0 : (s.heap.push { cls := .type "dict_valueiterator", data := .fields #[.ref a, .int 0 0, .int vs.length 0, .int ep 0] }).IsValIter s.heap.objs.size a 0 vs.length ep := ⟨_, Heap.get?_push_size _ rfl, rfl, rfl⟩
  refine ⟨s.heap.objs.size, _, _, _, _, _, _, fun j => ns.getD j 0, rfl, (Walks.dictValues (knd := mixKind X.prog X.w) (A := X.A.in1) (I.ok.hd hc) s.heap.objs.size a hne vs ep).toS, ⟨st0, hat.at' fun o e => Heap.get?_push_of_some _ e⟩, fun b hb => ?_, fun j y ⟨k, e⟩ => ?_, fun s' t' mv => ?_⟩
  · show b < (s.heap.push _).objs.size
    rw [Heap.size_push]
    rcases List.mem_cons.mp hb with rfl | hb
    · exact Nat.lt_succ_self _
    · rw [List.mem_singleton.mp hb]; exact Nat.lt_succ_of_lt (I.hok.lt ha)
  · have e1 : (kvs.map (·.2))[j]? = some (V.int (ns.getD j 0)) := by
      have hj : j < ns.length := by
        have := (List.getElem?_eq_some_iff.mp e).1
        rw [← kv.length, hlen] at this
        exact this
      rw [hn, List.getElem?_map, List.getElem?_eq_getElem hj]
      simp [List.getD, hj]
    have aux : ∀ {l1 : List (Key × V)} {l2 : List (Key × Value)}, KV l1 l2 → ∀ (j : Nat) x y, (l1.map (·.2))[j]? = some x → l2[j]? = some y → RelV x y.2 := by
      intro l1 l2 hk
      unfold KV at hk
      induction hk with
      | nil => intro j x y e; simp at e
      | cons p r ih =>
        intro j x y e1 e2
        cases j with
        | zero => simp at e1 e2; subst e1; subst e2; exact p.2
        | succ j => exact ih j x y (by simpa using e1) (by simpa using e2)
    exact aux kv j _ _ e1 e
  · have e2 : preSum (fun j => ns.getD j 0) vs.length = ns.sum := by
      rw [← kv.length, hlen]
      exact preSum_eq _ ns fun j n e => by simp [List.getD, e]
    rw [e2]
    have I1 : Inv X pins σ H { s with heap := s.heap.push { cls := .type "dict_valueiterator", data := .fields #[.ref a, .int 0 0, .int vs.length 0, .int ep 0] } } := I.kept (t' := s.toks) fun b o e => Heap.get?_push_of_some _ e
    have ff := I.fpOk (b := s.heap.objs.size) (Nat.le_refl _) I.fresh
    obtain ⟨h', g', d', tk', os'⟩ := s'
    have eo : os' = s.os := mv.os
    have eg : g' = s.gens := mv.gens
    have ed : d' = s.drawn := mv.drawn
    subst eo; subst eg; subst ed
    exact ⟨.int ns.sum, H, I1.turned (t' := tk') (fun b o hb e => mv.heap b o (by simpa using hb) e) ff.1 ff.2.1 ff.2.2.2.1 ff.2.2.2.2.1 ff.2.2.2.2.2, ⟨t', rfl⟩, q⟩


/-- all of a list of bools -/
theorem call_all_list (hc : X.calm = true) : CallR X (.builtin "all") (fun xs H Q => ∃ (a : Addr) (bs : List Bool), xs = [.ref a] ∧ SqL X.K H a (bs.map V.bl) ∧ Q (.bl (bs.all id)) H) := by
  intro pins s σ H xs us Q I r h
  obtain ⟨a, bs, rfl, ha, q⟩ := h
  obtain ⟨u, rfl, rx⟩ := vals1 r
  cases rx
  obtain ⟨its, rv, pl, hz⟩ := I.list ha
  have hlen := rv.length
  rw [List.length_map] at hlen
  have hlt : a < s.heap.objs.size := by obtain ⟨o, e, _⟩ := pl.isList; exact Heap.lt_size e
  have hne : a ≠ s.heap.objs.size := Nat.ne_of_lt hlt
  refine call_all_walk (wpAny_pyIter_list pl.isList ?_)
  refine ⟨s.heap.objs.size, _, _, _, _, _, fun j => bs.getD j true, rfl, Walks.list (A := X.A.in1) (I.ok.hd hc) s.heap.objs.size a hne its.toArray, ⟨⟨_, Heap.get?_push_size _ rfl, rfl, rfl⟩, pl.isList.at fun o e => Heap.get?_push_of_some _ e⟩, ?_, fun h' tk kp => ?_⟩
  · intro j y s1 Q1 E1 e hq
    have e' : its[j]? = some y := by simpa using e
    have hj : j < bs.length := by have := (List.getElem?_eq_some_iff.mp e').1; omega
    obtain ⟨u, e1, e2⟩ := rv.get (i := j) (x := V.bl (bs.getD j true)) (by rw [List.getElem?_map, List.getElem?_eq_getElem hj]; simp [List.getD, hj])
    rw [e'] at e1
    cases e1
    cases e2
    exact wpAny_truthy_bool hq
  · have e2 : ((List.range its.toArray.size).all fun j => bs.getD j true) = bs.all id := by
      rw [List.size_toArray, ← hlen]
      rw [Bool.eq_iff_iff, List.all_eq_true, List.all_eq_true]
      constructor
      · intro z b hb
        obtain ⟨j, hj, rfl⟩ := List.mem_iff_getElem.mp hb
        have := z j (by simpa using hj)
        simpa [List.getD, hj] using this
      · intro z j hj
        have hj' : j < bs.length := by simpa using hj
        have := z bs[j] (List.getElem_mem hj')
        simpa [List.getD, hj'] using this
    rw [e2]
    have I1 : Inv X pins σ H { s with heap := s.heap.push { cls := .type "list_iterator", data := .fields #[.ref a, .int 0 0] } } := I.kept (t' := s.toks) fun b o e => Heap.get?_push_of_some _ e
    have ff := I.fpOk (b := s.heap.objs.size) (Nat.le_refl _) I.fresh
    exact ⟨.bl (bs.all id), H, I1.turned (t' := tk) (fun b o hb e => kp b o (by simpa using hb) e) ff.1 ff.2.1 ff.2.2.2.1 ff.2.2.2.2.1 ff.2.2.2.2.2, rfl, q⟩

/-- isinstance(x, T), T a built-in type -/
theorem call_isinst : CallR X (.builtin "isinstance") (fun xs H Q => ∃ x n t b, xs = [x, .ty n] ∧ TyOf X.K H x t ∧ PySem.W.kitOne X.K t (.type n) = some b ∧ Q (.bl b) H) := by
  intro pins s σ H xs us Q I r h
  obtain ⟨x, n, t, b, rfl, ty, e, q⟩ := h
  obtain ⟨u, v, rfl, rx, ry⟩ := Vals.two r
  cases ry
  exact isinst_ok I rx ty e fun tk => ⟨.bl b, H, I.tok tk, rfl, q⟩
end
end L2

namespace L2
open PySem PySem.Spec PyProof.Rows PySem.SeqAt

/-! ### data without places -/
inductive D where
  | non | bl (b : Bool) | int (i : Int) | str (x : Str) | tup (xs : List D) | lst (xs : List D)

mutual
inductive DatAt (K : PySem.W.Frag) (H : Hp) : V → D → Prop where
  | non : DatAt K H .non .non
  | bl (b : Bool) : DatAt K H (.bl b) (.bl b)
  | int (i : Int) : DatAt K H (.int i) (.int i)
  | str (x : Str) : DatAt K H (.str x) (.str x)
  | tup {a : Addr} {vs : List V} {ds : List D} : SqT K H a vs → DatsAt K H vs ds → DatAt K H (.ref a) (.tup ds)
  | lst {a : Addr} {vs : List V} {ds : List D} : SqL K H a vs → DatsAt K H vs ds → DatAt K H (.ref a) (.lst ds)
inductive DatsAt (K : PySem.W.Frag) (H : Hp) : List V → List D → Prop where
  | nil : DatsAt K H [] []
  | cons {v : V} {d : D} {vs : List V} {ds : List D} : DatAt K H v d → DatsAt K H vs ds → DatsAt K H (v :: vs) (d :: ds)
end

theorem Same.seqT {K : PySem.W.Frag} {H H' : Hp} {a : Addr} {xs : List V} (e : Same H H') (h : SqT K H a xs) : SqT K H' a xs := by
  rcases h with (h | ⟨o, h⟩) | h
  · exact .inl (.inl (e _ _ h))
  · exact .inl (.inr ⟨o, e _ _ h⟩)
  · exact .inr h
section
variable {K : PySem.W.Frag} {H H' : Hp}
mutual
theorem DatAt.same (S : Same H H') : ∀ {v : V} {d : D}, DatAt K H v d → DatAt K H' v d
  | _, _, .non => .non
  | _, _, .bl b => .bl b
  | _, _, .int i => .int i
  | _, _, .str x => .str x
  | _, _, .tup h r => .tup (S.seqT h) (DatsAt.same S r)
  | _, _, .lst h r => .lst (S.seq h) (DatsAt.same S r)
theorem DatsAt.same (S : Same H H') : ∀ {vs : List V} {ds : List D}, DatsAt K H vs ds → DatsAt K H' vs ds
  | _, _, .nil => .nil
  | _, _, .cons h r => .cons (DatAt.same S h) (DatsAt.same S r)
end
theorem DatsAt.length : ∀ {vs : List V} {ds : List D}, DatsAt K H vs ds → vs.length = ds.length
  | _, _, .nil => rfl
  | _, _, .cons _ r => by simp [DatsAt.length r]
theorem DatsAt.get : ∀ {vs : List V} {ds : List D} {i : Nat} {d : D}, DatsAt K H vs ds → ds[i]? = some d → ∃ v, vs[i]? = some v ∧ DatAt K H v d
  | _, _, _, _, .nil, e => by simp at e
  | _, _, 0, _, .cons h _, e => by simp at e; subst e; exact ⟨_, rfl, h⟩
  | _, _, i + 1, d, .cons _ r, e => by
    obtain ⟨v, h1, h2⟩ := DatsAt.get (i := i) (d := d) r (by simpa using e)
    exact ⟨v, by simpa using h1, h2⟩
theorem DatsAt.get' : ∀ {vs : List V} {ds : List D} {i : Nat} {v : V}, DatsAt K H vs ds → vs[i]? = some v → ∃ d, ds[i]? = some d ∧ DatAt K H v d
  | _, _, _, _, .nil, e => by simp at e
  | _, _, 0, _, .cons h _, e => by simp at e; subst e; exact ⟨_, rfl, h⟩
  | _, _, i + 1, v, .cons _ r, e => by
    obtain ⟨d, h1, h2⟩ := DatsAt.get' (i := i) (v := v) r (by simpa using e)
    exact ⟨d, by simpa using h1, h2⟩
theorem DatsAt.append : ∀ {vs ws : List V} {ds es : List D}, DatsAt K H vs ds → DatsAt K H ws es → DatsAt K H (vs ++ ws) (ds ++ es)
  | _, _, _, _, .nil, s => s
  | _, _, _, _, .cons r t, s => .cons r (DatsAt.append t s)
theorem datsInts : ∀ (ns : List Int), DatsAt K H (ns.map V.int) (ns.map D.int)
  | [] => .nil
  | n :: r => .cons (.int n) (datsInts r)
end

/-! ### == -/
mutual
def eqD : D → D → Bool
  | .non, .non => true
  | .bl a, .bl b => a == b
  | .bl a, .int b => (if a then 1 else 0) == b
  | .int a, .bl b => a == (if b then 1 else 0)
  | .int a, .int b => a == b
  | .str a, .str b => a == b
  | .tup xs, .tup ys => eqDs xs ys
  | .lst xs, .lst ys => eqDs xs ys
  | _, _ => false
def eqDs : List D → List D → Bool
  | [], [] => true
  | x :: xs, y :: ys => eqD x y && eqDs xs ys
  | _, _ => false
end
mutual
theorem eqD_refl : ∀ d : D, eqD d d = true
  | .non => by simp [eqD]
  | .bl b => by simp [eqD]
  | .int i => by simp [eqD]
  | .str x => by simp [eqD]
  | .tup xs => by simp [eqD, eqDs_refl xs]
  | .lst xs => by simp [eqD, eqDs_refl xs]
theorem eqDs_refl : ∀ ds : List D, eqDs ds ds = true
  | [] => by simp [eqDs]
  | d :: ds => by simp [eqDs, eqD_refl d, eqDs_refl ds]
end
mutual
def depD : D → Nat
  | .tup xs => depDs xs + 1
  | .lst xs => depDs xs + 1
  | _ => 0
def depDs : List D → Nat
  | [] => 0
  | d :: ds => max (depD d) (depDs ds)
end
theorem depDs_get : ∀ {ds : List D} {j : Nat} {d : D}, ds[j]? = some d → depD d ≤ depDs ds
  | [], _, _, e => by simp at e
  | x :: xs, 0, d, e => by simp at e; subst e; simp [depDs]; omega
  | x :: xs, j + 1, d, e => by
    have := depDs_get (ds := xs) (j := j) (d := d) (by simpa using e)
    simp [depDs]; omega
theorem eqDs_range : ∀ (ds es : List D), eqDs ds es = ((List.range (min ds.length es.length)).all (fun j => eqD (ds.getD j .non) (es.getD j .non)) && ds.length == es.length)
  | [], [] => by simp [eqDs]
  | [], e :: es => by simp [eqDs]
  | d :: ds, [] => by simp [eqDs]
  | d :: ds, e :: es => by
    have ih := eqDs_range ds es
    rw [eqDs, ih]
    have h1 : min (d :: ds).length (e :: es).length = min ds.length es.length + 1 := by simp only [List.length_cons]; omega
    rw [h1, List.range_succ_eq_map, List.all_cons, List.all_map]
    simp only [List.getD_cons_zero, Function.comp_def, List.getD_cons_succ, List.length_cons]
    rw [Bool.and_assoc]
    congr 2
    simp

section
variable {X : Cx} {pins : List (Addr × Obj)} {σ : St} {H : Hp} {s : Shared}
mutual
theorem Inv.dat_inj (I : Inv X pins σ H s) : ∀ {v : V} {d e : D}, DatAt X.K H v d → DatAt X.K H v e → d = e
  | _, _, _, .non, h => by cases h; rfl
  | _, _, _, .bl b, h => by cases h; rfl
  | _, _, _, .int i, h => by cases h; rfl
  | _, _, _, .str x, h => by cases h; rfl
  | _, _, _, .tup h1 r1, h => by
    cases h with
    | tup h2 r2 =>
      have e := I.tuple_inj h1 h2
      subst e
      rw [Inv.dats_inj I r1 r2]
    | lst h2 r2 =>
      obtain ⟨i1, _, p1, _⟩ := I.tuple h1
      obtain ⟨i2, _, p2, _⟩ := I.list h2
      exact absurd rfl (ne_of_list_tuple p2.isList p1)
  | _, _, _, .lst h1 r1, h => by
    cases h with
    | lst h2 r2 =>
      have e := I.list_inj h1 h2
      subst e
      rw [Inv.dats_inj I r1 r2]
    | tup h2 r2 =>
      obtain ⟨i1, _, p1, _⟩ := I.tuple h2
      obtain ⟨i2, _, p2, _⟩ := I.list h1
      exact absurd rfl (ne_of_list_tuple p2.isList p1)
theorem Inv.dats_inj (I : Inv X pins σ H s) : ∀ {vs : List V} {ds es : List D}, DatsAt X.K H vs ds → DatsAt X.K H vs es → ds = es
  | _, _, _, .nil, h => by cases h; rfl
  | _, _, _, .cons h1 r1, h => by
    cases h with
    | cons h2 r2 => rw [Inv.dat_inj I h1 h2, Inv.dats_inj I r1 r2]
end

theorem eqAt_dat (I : Inv X pins σ H s) : ∀ (n : Nat) (A : Around) {x y : V} {d e : D} {u v : Value}, depD d ≤ n → A.units + n < cLine → DatAt X.K H x d → DatAt X.K H y e → RelV x u → RelV y v → EqAt A s u v (eqD d e) := by
  intro n
  induction n with
  | zero =>
    intro A x y d e u v hd hu hx hy rx ry
    have hu' : A.units < cLine := by omega
    cases hx with
    | tup => simp [depD] at hd
    | lst => simp [depD] at hd
    | non =>
      cases rx
      cases hy with
      | non => cases ry; simpa [eqD] using EqAt.same (A := A) (s := s) Value.none
      | bl b => cases ry; simpa [eqD] using EqAt.none_bool (A := A) (s := s) b
      | int i => obtain ⟨t, rfl⟩ := ry; simpa [eqD] using EqAt.none_int (A := A) (s := s) i t
      | str z => obtain ⟨t, rfl⟩ := ry; simpa [eqD] using EqAt.none_str (A := A) (s := s) z t
      | tup h r => cases ry; obtain ⟨its, _, p, _⟩ := I.tuple h; simpa [eqD] using EqAt.none_tuple (A := A) p hu'
      | lst h r => cases ry; obtain ⟨its, _, p, _⟩ := I.list h; simpa [eqD] using EqAt.none_list (A := A) p.isList hu'
    | bl a =>
      cases rx
      cases hy with
      | non => cases ry; simpa [eqD] using EqAt.bool_none (A := A) (s := s) a
      | bl b => cases ry; simpa [eqD] using EqAt.bool_bool (A := A) (s := s) a b
      | int i => obtain ⟨t, rfl⟩ := ry; simpa [eqD] using EqAt.bool_int (A := A) (s := s) a i t
      | str z => obtain ⟨t, rfl⟩ := ry; simpa [eqD] using EqAt.bool_str (A := A) (s := s) a z t
      | tup h r => cases ry; obtain ⟨its, _, p, _⟩ := I.tuple h; simpa [eqD] using EqAt.bool_tuple (A := A) a p hu'
      | lst h r => cases ry; obtain ⟨its, _, p, _⟩ := I.list h; simpa [eqD] using EqAt.bool_list (A := A) a p.isList hu'
    | int a =>
      obtain ⟨t, rfl⟩ := rx
      cases hy with
      | non => cases ry; simpa [eqD] using EqAt.int_none (A := A) (s := s) a t
      | bl b => cases ry; simpa [eqD] using EqAt.int_bool (A := A) (s := s) a t b
      | int i => obtain ⟨t', rfl⟩ := ry; simpa [eqD] using EqAt.int_int (A := A) (s := s) a t i t'
      | str z => obtain ⟨t', rfl⟩ := ry; simpa [eqD] using EqAt.int_str (A := A) (s := s) a t z t'
      | tup h r => cases ry; obtain ⟨its, _, p, _⟩ := I.tuple h; simpa [eqD] using EqAt.int_tuple (A := A) a t p hu'
      | lst h r => cases ry; obtain ⟨its, _, p, _⟩ := I.list h; simpa [eqD] using EqAt.int_list (A := A) a t p.isList hu'
    | str a =>
      obtain ⟨t, rfl⟩ := rx
      cases hy with
      | non => cases ry; simpa [eqD] using EqAt.str_none (A := A) (s := s) a t
      | bl b => cases ry; simpa [eqD] using EqAt.str_bool (A := A) (s := s) a t b
      | int i => obtain ⟨t', rfl⟩ := ry; simpa [eqD] using EqAt.str_int (A := A) (s := s) a t i t'
      | str z => obtain ⟨t', rfl⟩ := ry; simpa [eqD] using EqAt.str_str (A := A) (s := s) a t z t'
      | tup h r => cases ry; obtain ⟨its, _, p, _⟩ := I.tuple h; simpa [eqD] using EqAt.str_tuple (A := A) a t p hu'
      | lst h r => cases ry; obtain ⟨its, _, p, _⟩ := I.list h; simpa [eqD] using EqAt.str_list (A := A) a t p.isList hu'
  | succ n ih =>
    intro A x y d e u v hd hu hx hy rx ry
    have hu' : A.units < cLine := by omega
    by_cases hz : depD d ≤ n
    · exact ih A hz (by omega) hx hy rx ry
    · have hui : A.in1.units + n < cLine := by show A.units + 1 + n < cLine; omega
      -- the items, place by place
      have items : ∀ {vs ws : List V} {ds es : List D} {us vs' : List Value}, depDs ds ≤ n → DatsAt X.K H vs ds → DatsAt X.K H ws es → Vals vs us → Vals ws vs' → ∀ j (h1 : j < us.toArray.size) (h2 : j < vs'.toArray.size), EqAt A.in1 s us.toArray[j] vs'.toArray[j] (eqD (ds.getD j .non) (es.getD j .non)) := by
        intro vs ws ds es us vs' hdd r1 r2 q1 q2 j h1 h2
        have l1 := r1.length
        have l2 := r2.length
        have l3 := q1.length
        have l4 := q2.length
        simp only [List.size_toArray] at h1 h2
        have e1 : ds[j]? = some (ds.getD j .non) := by rw [List.getElem?_eq_getElem (by omega)]; simp [List.getD, show j < ds.length by omega]
        have e2 : es[j]? = some (es.getD j .non) := by rw [List.getElem?_eq_getElem (by omega)]; simp [List.getD, show j < es.length by omega]
        obtain ⟨x1, g1, d1⟩ := r1.get e1
        obtain ⟨x2, g2, d2⟩ := r2.get e2
        obtain ⟨u1, f1, rr1⟩ := q1.get g1
        obtain ⟨u2, f2, rr2⟩ := q2.get g2
        have z1 : us.toArray[j] = u1 := by
          have : us[j]? = some us[j] := List.getElem?_eq_getElem h1
          rw [f1] at this
          simpa using (Option.some.inj this).symm
        have z2 : vs'.toArray[j] = u2 := by
          have : vs'[j]? = some vs'[j] := List.getElem?_eq_getElem h2
          rw [f2] at this
          simpa using (Option.some.inj this).symm
        rw [z1, z2]
        exact ih A.in1 (Nat.le_trans (depDs_get e1) hdd) hui d1 d2 rr1 rr2
      cases hx with
      | non => simp [depD] at hz
      | bl => simp [depD] at hz
      | int => simp [depD] at hz
      | str => simp [depD] at hz
      | @tup a vs ds h1 r1 =>
        cases rx
        obtain ⟨us, q1, p1, z1⟩ := I.tuple h1
        have hdd : depDs ds ≤ n := by simp [depD] at hd; omega
        cases hy with
        | non => cases ry; simpa [eqD] using EqAt.tuple_none (A := A) p1 hu'
        | bl b => cases ry; simpa [eqD] using EqAt.tuple_bool (A := A) b p1 hu'
        | int i => obtain ⟨t', rfl⟩ := ry; simpa [eqD] using EqAt.tuple_int (A := A) i t' p1 hu'
        | str z => obtain ⟨t', rfl⟩ := ry; simpa [eqD] using EqAt.tuple_str (A := A) z t' p1 hu'
        | lst h r => cases ry; obtain ⟨its, _, p, _⟩ := I.list h; simpa [eqD] using EqAt.tuple_list (A := A) p1 p.isList hu'
        | @tup b ws es h2 r2 =>
          cases ry
          by_cases hab : a = b
          · subst hab
            have e := I.tuple_inj h1 h2
            subst e
            rw [I.dats_inj r1 r2, eqD_refl]
            exact EqAt.same _
          · obtain ⟨vs', q2, p2, z2⟩ := I.tuple h2
            have z := RcAt.tuples (A := A) (s := s) p1 p2 hu' (items hdd r1 r2 q1 q2)
            have e : eqD (.tup ds) (.tup es) = ((List.range (min us.toArray.size vs'.toArray.size)).all (fun j => eqD (ds.getD j .non) (es.getD j .non)) && us.toArray.size == vs'.toArray.size) := by
              rw [eqD, eqDs_range, List.size_toArray, List.size_toArray, ← q1.length, ← q2.length, r1.length, r2.length]
            rw [e]
            exact EqAt.of_refs hab z
      | @lst a vs ds h1 r1 =>
        cases rx
        obtain ⟨us, q1, p1, z1⟩ := I.list h1
        have hdd : depDs ds ≤ n := by simp [depD] at hd; omega
        cases hy with
        | non => cases ry; simpa [eqD] using EqAt.list_none (A := A) p1.isList hu'
        | bl b => cases ry; simpa [eqD] using EqAt.list_bool (A := A) b p1.isList hu'
        | int i => obtain ⟨t', rfl⟩ := ry; simpa [eqD] using EqAt.list_int (A := A) i t' p1.isList hu'
        | str z => obtain ⟨t', rfl⟩ := ry; simpa [eqD] using EqAt.list_str (A := A) z t' p1.isList hu'
        | tup h r => cases ry; obtain ⟨its, _, p, _⟩ := I.tuple h; simpa [eqD] using EqAt.list_tuple (A := A) p1.isList p hu'
        | @lst b ws es h2 r2 =>
          cases ry
          by_cases hab : a = b
          · subst hab
            have e := I.list_inj h1 h2
            subst e
            rw [I.dats_inj r1 r2, eqD_refl]
            exact EqAt.same _
          · obtain ⟨vs', q2, p2, z2⟩ := I.list h2
            by_cases hl : us.toArray.size = vs'.toArray.size
            · have z := RcAt.lists (A := A) (s := s) p1.isList p2.isList hl hu' (items hdd r1 r2 q1 q2)
              have hl' : ds.length = es.length := by
                simp only [List.size_toArray] at hl
                rw [← r1.length, ← r2.length, q1.length, q2.length, hl]
              have e : eqD (.lst ds) (.lst es) = ((List.range us.toArray.size).all (fun j => eqD (ds.getD j .non) (es.getD j .non))) := by
                rw [eqD, eqDs_range, List.size_toArray, ← q1.length, r1.length, hl']
                simp
              rw [e]
              exact EqAt.of_refs hab z
            · have z := RcAt.lists_lengths (A := A) (s := s) p1.isList p2.isList (by simpa using hl) hu'
              have e : eqD (.lst ds) (.lst es) = false := by
                rw [eqD, eqDs_range]
                have : ¬ ds.length = es.length := by
                  simp only [List.size_toArray] at hl
                  rw [← r1.length, ← r2.length, q1.length, q2.length]
                  exact hl
                simp [this]
              rw [e]
              exact EqAt.of_refs hab z
end

/-- == of two tuples or two lists -/
def rEqD (K : PySem.W.Frag) : R2 := fun x y H Q => ∃ d e, ((∃ ds es, d = .tup ds ∧ e = .tup es) ∨ (∃ ds es, d = .lst ds ∧ e = .lst es)) ∧ DatAt K H x d ∧ DatAt K H y e ∧ depD d ≤ 50 ∧ Q (.bl (eqD d e)) H
theorem op_eqD {X : Cx} (hu : X.A.units + 60 < cLine) : OpR X (compareOp .Eq) (rEqD X.K) := by
  intro pins s σ H x y u v Q I rx ry h
  obtain ⟨d, e, k, hx, hy, hd, q⟩ := h
  have items : ∀ {vs ws : List V} {ds es : List D} {us vs' : List Value}, depDs ds ≤ 50 → DatsAt X.K H vs ds → DatsAt X.K H ws es → Vals vs us → Vals ws vs' → ∀ j (h1 : j < us.toArray.size) (h2 : j < vs'.toArray.size), EqAt X.A.in1 s us.toArray[j] vs'.toArray[j] (eqD (ds.getD j .non) (es.getD j .non)) := by
    intro vs ws ds es us vs' hdd r1 r2 q1 q2 j h1 h2
    have l1 := r1.length
    have l2 := r2.length
    have l3 := q1.length
    have l4 := q2.length
    simp only [List.size_toArray] at h1 h2
    have e1 : ds[j]? = some (ds.getD j .non) := by rw [List.getElem?_eq_getElem (by omega)]; simp [List.getD, show j < ds.length by omega]
    have e2 : es[j]? = some (es.getD j .non) := by rw [List.getElem?_eq_getElem (by omega)]; simp [List.getD, show j < es.length by omega]
    obtain ⟨x1, g1, d1⟩ := r1.get e1
    obtain ⟨x2, g2, d2⟩ := r2.get e2
    obtain ⟨u1, f1, rr1⟩ := q1.get g1
    obtain ⟨u2, f2, rr2⟩ := q2.get g2
    have z1 : us.toArray[j] = u1 := by
      have : us[j]? = some us[j] := List.getElem?_eq_getElem h1
      rw [f1] at this
      simpa using (Option.some.inj this).symm
    have z2 : vs'.toArray[j] = u2 := by
      have : vs'[j]? = some vs'[j] := List.getElem?_eq_getElem h2
      rw [f2] at this
      simpa using (Option.some.inj this).symm
    rw [z1, z2]
    exact eqAt_dat I 50 X.A.in1 (Nat.le_trans (depDs_get e1) hdd) (by show X.A.units + 1 + 50 < cLine; omega) d1 d2 rr1 rr2
  have hu' : X.A.units < cLine := by omega
  rcases k with ⟨ds, es, rfl, rfl⟩ | ⟨ds, es, rfl, rfl⟩
  · cases hx with
    | @tup a vs _ h1 r1 =>
      cases hy with
      | @tup b ws _ h2 r2 =>
        cases rx
        cases ry
        obtain ⟨us, q1, p1, z1⟩ := I.tuple h1
        obtain ⟨vs', q2, p2, z2⟩ := I.tuple h2
        have e : eqD (.tup ds) (.tup es) = ((List.range (min us.toArray.size vs'.toArray.size)).all (fun j => eqD (ds.getD j .non) (es.getD j .non)) && us.toArray.size == vs'.toArray.size) := by
          rw [eqD, eqDs_range, List.size_toArray, List.size_toArray, ← q1.length, ← q2.length, r1.length, r2.length]
        rw [e] at q
        exact eq_tupleAt p1 p2 hu' (items (by simp [depD] at hd; omega) r1 r2 q1 q2) ⟨.bl _, H, I, rfl, q⟩
  · cases hx with
    | @lst a vs _ h1 r1 =>
      cases hy with
      | @lst b ws _ h2 r2 =>
        cases rx
        cases ry
        obtain ⟨us, q1, p1, z1⟩ := I.list h1
        obtain ⟨vs', q2, p2, z2⟩ := I.list h2
        by_cases hl : us.toArray.size = vs'.toArray.size
        · have hl' : ds.length = es.length := by
            simp only [List.size_toArray] at hl
            rw [← r1.length, ← r2.length, q1.length, q2.length, hl]
          have e : eqD (.lst ds) (.lst es) = ((List.range us.toArray.size).all (fun j => eqD (ds.getD j .non) (es.getD j .non))) := by
            rw [eqD, eqDs_range, List.size_toArray, ← q1.length, r1.length, hl']
            simp
          rw [e] at q
          exact eq_listAt p1.isList p2.isList hl hu' (items (by simp [depD] at hd; omega) r1 r2 q1 q2) ⟨.bl _, H, I, rfl, q⟩
        · have e : eqD (.lst ds) (.lst es) = false := by
            rw [eqD, eqDs_range]
            have : ¬ ds.length = es.length := by
              simp only [List.size_toArray] at hl
              rw [← r1.length, ← r2.length, q1.length, q2.length]
              exact hl
            simp [this]
          rw [e] at q
          exact eq_list_lengthsAt p1.isList p2.isList (by simpa using hl) hu' ⟨.bl _, H, I, rfl, q⟩

/-! ### isinstance of data -/
def tyD : D → String
  | .non => "NoneType"
  | .bl _ => "bool"
  | .int _ => "int"
  | .str _ => "str"
  | .tup _ => "tuple"
  | .lst _ => "list"
theorem call_isD {X : Cx} : CallR X (.builtin "isinstance") (fun xs H Q => ∃ x n d b, xs = [x, .ty n] ∧ DatAt X.K H x d ∧ PySem.W.kitOne X.K (.type (tyD d)) (.type n) = some b ∧ Q (.bl b) H) := by
  intro pins s σ H xs us Q I r h
  obtain ⟨x, n, d, b, rfl, hx, e, q⟩ := h
  obtain ⟨u, v, rfl, rx, ry⟩ := Vals.two r
  cases ry
  have fin : ∀ tk, EP X pins σ Q (.bool b) { s with toks := tk } := fun tk => ⟨.bl b, H, I.tok tk, rfl, q⟩
  cases hx with
  | non => cases rx; exact PySem.W.kia_one PySem.W.kitx_none I.kIn True.intro e (fun z => nomatch z) fin
  | bl y => cases rx; exact PySem.W.kia_one PySem.W.kitx_bool I.kIn True.intro e (fun z => nomatch z) fin
  | int i => obtain ⟨t, rfl⟩ := rx; exact PySem.W.kia_one PySem.W.kitx_int I.kIn True.intro e (fun z => nomatch z) fin
  | str y => obtain ⟨t, rfl⟩ := rx; exact PySem.W.kia_one PySem.W.kitx_str I.kIn True.intro e (fun z => nomatch z) fin
  | tup h1 r1 =>
    cases rx
    obtain ⟨us, q1, p1, z1⟩ := I.tuple h1
    obtain ⟨o, h1, h2, _⟩ := p1
    exact PySem.W.kia_one PySem.W.kitx_tuple I.kIn ⟨o, h1, h2⟩ e (fun z => nomatch z) fin
  | lst h1 r1 =>
    cases rx
    obtain ⟨us, q1, p1, z1⟩ := I.list h1
    obtain ⟨o, h1, h2, _⟩ := p1.isList
    exact PySem.W.kia_one PySem.W.kitx_list I.kIn ⟨o, h1, h2⟩ e (fun z => nomatch z) fin
end L2

namespace L2
open PySem PySem.Spec PyProof.Rows

/-! ### data that a growing list does not touch -/
mutual
def noL : D → Bool
  | .tup xs => noLs xs
  | .lst _ => false
  | _ => true
def noLs : List D → Bool
  | [] => true
  | d :: ds => noL d && noLs ds
end
/-- all but p is kept -/
def Kp (p : Addr) (H H' : Hp) : Prop := ∀ b o, b ≠ p → H b = some o → H' b = some o
theorem kp_upd {p : Addr} {H : Hp} (o : HO) : Kp p H (upd H p o) := fun b u hb e => by rw [upd_ne hb]; exact e
theorem same_fresh {H : Hp} {l : Addr} (o : HO) (h : H l = none) : Same H (upd H l o) := fun b u e => by rw [upd_ne (ne_of_none e h)]; exact e
theorem Same.fresh_upd {H H' : Hp} {p : Addr} (S : Same H H') (h : H p = none) (o : HO) : Same H (upd H' p o) := fun b u e => by rw [upd_ne (ne_of_none e h)]; exact S b u e
section
variable {K : PySem.W.Frag} {H H' : Hp} {p : Addr}
mutual
theorem DatAt.kp (hp : ∃ xs, H p = some (.lst xs)) (S : Kp p H H') : ∀ {v : V} {d : D}, noL d = true → DatAt K H v d → DatAt K H' v d
  | _, _, _, .non => .non
  | _, _, _, .bl b => .bl b
  | _, _, _, .int i => .int i
  | _, _, _, .str x => .str x
  | _, _, n, .tup h r => by
    have n' := n
    simp only [noL] at n'
    refine .tup ?_ (DatsAt.kp hp S n' r)
    obtain ⟨xs, hp⟩ := hp
    rcases h with (h | ⟨o, h⟩) | h
    · exact .inl (.inl (S _ _ (ne_of h hp (by intro z; cases z)) h))
    · exact .inl (.inr ⟨o, S _ _ (ne_of h hp (by intro z; cases z)) h⟩)
    · exact .inr h
  | _, _, n, .lst h r => by simp [noL] at n
theorem DatsAt.kp (hp : ∃ xs, H p = some (.lst xs)) (S : Kp p H H') : ∀ {vs : List V} {ds : List D}, noLs ds = true → DatsAt K H vs ds → DatsAt K H' vs ds
  | _, _, _, .nil => .nil
  | _, _, n, .cons h r => by
    simp only [noLs, Bool.and_eq_true] at n
    exact .cons (DatAt.kp hp S n.1 h) (DatsAt.kp hp S n.2 r)
end
end
theorem noLs_all : ∀ {ds : List D}, (∀ (i : Nat) d, ds[i]? = some d → noL d = true) → noLs ds = true
  | [], _ => rfl
  | d :: ds, h => by
    simp only [noLs, Bool.and_eq_true]
    exact ⟨h 0 d rfl, noLs_all fun i e he => h (i + 1) e (by simpa using he)⟩

section
variable {K : PySem.W.Frag} {a p : Addr} {xs : List V} {n : Nat} {capN : List Nat} {g : TG} {te : TE} {σ : St} {H1 : Hp} {QH : Hp → Prop}
/-- what a comprehension of immutable data has, at turn i -/
def DatsUp (K : PySem.W.Frag) (H1 : Hp) (p : Addr) (Rl : Nat → D → Prop) (i : Nat) (ys : List V) (H : Hp) : Prop :=
  Same H1 H ∧ H p = some (.lst ys) ∧ ∃ ds : List D, ds.length = i ∧ (∀ (j : Nat) d, ds[j]? = some d → Rl j d) ∧ DatsAt K H ys ds
theorem DatsUp.len {Rl : Nat → D → Prop} {i : Nat} {ys : List V} {H : Hp} (h : DatsUp K H1 p Rl i ys H) : ys.length = i := by
  obtain ⟨_, _, ds, h1, _, h2⟩ := h
  rw [h2.length, h1]
theorem DatsUp.start {Rl : Nat → D → Prop} (hp : H1 p = none) : DatsUp K H1 p Rl 0 [] (upd H1 p (.lst [])) := ⟨same_fresh _ hp, upd_same, [], rfl, by simp, .nil⟩
theorem DatsUp.more {Rl : Nat → D → Prop} {i : Nat} {ys : List V} {H H4 : Hp} {y : V} {d : D} (hp : H1 p = none) (hn : ∀ j d, Rl j d → noL d = true) (h : DatsUp K H1 p Rl i ys H) (S : Same H H4) (hy : DatAt K H4 y d) (hd : Rl i d) :
    H4 p = some (.lst ys) ∧ DatsUp K H1 p Rl (i + 1) (ys ++ [y]) (upd H4 p (.lst (ys ++ [y]))) := by
  obtain ⟨S1, h2, ds, h3, h4, h5⟩ := h
  have h2' := S p _ h2
  refine ⟨h2', (S1.trans S).fresh_upd hp _, upd_same, ds ++ [d], by simp [h3], fun j e he => ?_, ?_⟩
  · by_cases hj : j < ds.length
    · rw [List.getElem?_append_left hj] at he
      exact h4 j e he
    · rw [List.getElem?_append_right (Nat.not_lt.mp hj)] at he
      have : j - ds.length = 0 := by
        cases q : j - ds.length with
        | zero => rfl
        | succ k => rw [q] at he; simp at he
      rw [this] at he
      simp at he
      subst he
      have : j = i := by omega
      rw [this]
      exact hd
  · exact (DatsAt.kp ⟨_, h2'⟩ (kp_upd _) (noLs_all fun j e he => hn j e (h4 j e he)) (h5.same S)).append (.cons (DatAt.kp ⟨_, h2'⟩ (kp_upd _) (hn _ _ hd) hy) .nil)

theorem comp_datL (Rl : Nat → D → Prop) (hp : H1 p = none) (hq : SqL K H1 a xs) (hsz : xs.length ≤ sizeLine) (hn : ∀ j d, Rl j d → noL d = true)
    (hs : ∀ (i : Nat) x H (R : VK), xs[i]? = some x → Same H1 H → (∀ y H4 d, Same H H4 → DatAt K H4 y d → Rl i d → R y H4) → g x (blk n capN σ) H fun σ2 H2 => te σ2 H2 R)
    (hd : ∀ ys H ds, Same H1 H → H p = some (.lst ys) → ds.length = xs.length → (∀ (j : Nat) d, ds[j]? = some d → Rl j d) → DatsAt K H ys ds → QH H) :
    ∃ W : Nat → Nat → List V → Hp → Prop, (∃ m, W 0 m [] (upd H1 p (.lst []))) ∧ ∀ i m ys H, W i m ys H → H p = some (.lst ys) ∧
      (((Itl K a).stop i H ∧ QH H) ∨ ((Itl K a).go i H ∧ ys.length < sizeLine ∧ ∃ N : List V → Hp → Prop, (∀ ys' H', N ys' H' → ∃ m', m' < m ∧ W (i + 1) m' ys' H') ∧ ∀ x H', (Itl K a).yld i H x H' → g x (blk n capN σ) H' fun σ2 H2 => tYes σ2 H2 fun b H3 =>
        if b = true then te σ2 H3 fun y H4 => H4 p = some (.lst ys) ∧ N (ys ++ [y]) (upd H4 p (.lst (ys ++ [y]))) else N ys H3)) :=
  comp_list (tt := tYes) (DatsUp K H1 p Rl) (DatsUp.start hp) (fun i ys H hi h => ⟨h.1.seq hq, h.2.1, Nat.le_of_eq h.len⟩) hsz
    (fun i x ys H hx h => by
      have z := hs i x H (fun y H4 => H4 p = some (.lst ys) ∧ DatsUp K H1 p Rl (i + 1) (ys ++ [y]) (upd H4 p (.lst (ys ++ [y])))) hx h.1 fun y H4 d S hy hr => h.more hp hn S hy hr
      simpa only [tYes, if_true] using z)
    fun ys H h => by
      obtain ⟨S1, h2, ds, h3, h4, h5⟩ := h
      exact hd ys H ds S1 h2 h3 h4 h5
theorem comp_datT (Rl : Nat → D → Prop) (hp : H1 p = none) (hq : SqT K H1 a xs) (hsz : xs.length ≤ sizeLine) (hn : ∀ j d, Rl j d → noL d = true)
    (hs : ∀ (i : Nat) x H (R : VK), xs[i]? = some x → Same H1 H → (∀ y H4 d, Same H H4 → DatAt K H4 y d → Rl i d → R y H4) → g x (blk n capN σ) H fun σ2 H2 => te σ2 H2 R)
    (hd : ∀ ys H ds, Same H1 H → H p = some (.lst ys) → ds.length = xs.length → (∀ (j : Nat) d, ds[j]? = some d → Rl j d) → DatsAt K H ys ds → QH H) :
    ∃ W : Nat → Nat → List V → Hp → Prop, (∃ m, W 0 m [] (upd H1 p (.lst []))) ∧ ∀ i m ys H, W i m ys H → H p = some (.lst ys) ∧
      (((Itt K a).stop i H ∧ QH H) ∨ ((Itt K a).go i H ∧ ys.length < sizeLine ∧ ∃ N : List V → Hp → Prop, (∀ ys' H', N ys' H' → ∃ m', m' < m ∧ W (i + 1) m' ys' H') ∧ ∀ x H', (Itt K a).yld i H x H' → g x (blk n capN σ) H' fun σ2 H2 => tYes σ2 H2 fun b H3 =>
        if b = true then te σ2 H3 fun y H4 => H4 p = some (.lst ys) ∧ N (ys ++ [y]) (upd H4 p (.lst (ys ++ [y]))) else N ys H3)) :=
  comp_tup (tt := tYes) (DatsUp K H1 p Rl) (DatsUp.start hp) (fun i ys H hi h => ⟨h.1.seqT hq, h.2.1, Nat.le_of_eq h.len⟩) hsz
    (fun i x ys H hx h => by
      have z := hs i x H (fun y H4 => H4 p = some (.lst ys) ∧ DatsUp K H1 p Rl (i + 1) (ys ++ [y]) (upd H4 p (.lst (ys ++ [y])))) hx h.1 fun y H4 d S hy hr => h.more hp hn S hy hr
      simpa only [tYes, if_true] using z)
    fun ys H h => by
      obtain ⟨S1, h2, ds, h3, h4, h5⟩ := h
      exact hd ys H ds S1 h2 h3 h4 h5
theorem comp_datR {lo : Int} {k : Nat} (Rl : Nat → D → Prop) (hp : H1 p = none) (hsz : k ≤ sizeLine) (hn : ∀ j d, Rl j d → noL d = true)
    (hs : ∀ (i : Nat) H (R : VK), i < k → Same H1 H → (∀ y H4 d, Same H H4 → DatAt K H4 y d → Rl i d → R y H4) → g (.int (lo + i)) (blk n capN σ) H fun σ2 H2 => te σ2 H2 R)
    (hd : ∀ ys H ds, Same H1 H → H p = some (.lst ys) → ds.length = k → (∀ (j : Nat) d, ds[j]? = some d → Rl j d) → DatsAt K H ys ds → QH H) :
    ∃ W : Nat → Nat → List V → Hp → Prop, (∃ m, W 0 m [] (upd H1 p (.lst []))) ∧ ∀ i m ys H, W i m ys H → H p = some (.lst ys) ∧
      (((Itr lo k).stop i H ∧ QH H) ∨ ((Itr lo k).go i H ∧ ys.length < sizeLine ∧ ∃ N : List V → Hp → Prop, (∀ ys' H', N ys' H' → ∃ m', m' < m ∧ W (i + 1) m' ys' H') ∧ ∀ x H', (Itr lo k).yld i H x H' → g x (blk n capN σ) H' fun σ2 H2 => tYes σ2 H2 fun b H3 =>
        if b = true then te σ2 H3 fun y H4 => H4 p = some (.lst ys) ∧ N (ys ++ [y]) (upd H4 p (.lst (ys ++ [y]))) else N ys H3)) :=
  comp_range (tt := tYes) (DatsUp K H1 p Rl) (DatsUp.start hp) (fun i ys H hi h => ⟨h.2.1, Nat.le_of_eq h.len⟩) hsz
    (fun i ys H hx h => by
      have z := hs i H (fun y H4 => H4 p = some (.lst ys) ∧ DatsUp K H1 p Rl (i + 1) (ys ++ [y]) (upd H4 p (.lst (ys ++ [y])))) hx h.1 fun y H4 d S hy hr => h.more hp hn S hy hr
      simpa only [tYes, if_true] using z)
    fun ys H h => by
      obtain ⟨S1, h2, ds, h3, h4, h5⟩ := h
      exact hd ys H ds S1 h2 h3 h4 h5
end

/-! ### the same rules, the fragment named (within a comprehension) -/
section
variable {X : Cx} {K : PySem.W.Frag}
theorem call_len_K (h : X.K = K) : CallR X (.builtin "len") (fun xs H Q => ∃ (p : Addr) (ys : List V), xs = [.ref p] ∧ (SqL K H p ys ∨ SqT K H p ys) ∧ Q (.int ys.length) H) := by subst h; exact call_len_seq
theorem ix_tup_K (h : X.K = K) : IxR X (rIxT K) := by subst h; exact ix_tup
theorem ix_list_K (h : X.K = K) : IxR X (rIxL K) := by subst h; exact ix_list
end
end L2

namespace L2
open PySem PySem.Spec PyProof.Rows

/-! ### exceptions of own classes -/
section
variable {P : Program} {w : World} {H : Hp} {h : Heap} {a : Addr} {o : HO}
theorem ObjOk.some (x : ObjOk P w H h a o) : ∃ u, h.get? a = some u := by
  cases o with
  | lst xs => obtain ⟨_, _, _, _, e⟩ := x; exact ⟨_, e⟩
  | tup xs => obtain ⟨_, _, _, o, e, _⟩ := x; exact ⟨_, e⟩
  | dK kvs => obtain ⟨_, _, _, _, o, _, _, e, _⟩ := x; exact ⟨_, e⟩
  | dT kvs => obtain ⟨_, _, _, _, o, _, _, e, _⟩ := x; exact ⟨_, e⟩
  | set S n => obtain ⟨o, _, _, _, e, _⟩ := x; exact ⟨_, e⟩
  | ins C dx fs => obtain ⟨_, _, _, e, _⟩ := x; exact ⟨_, e⟩
  | own y => obtain ⟨_, e⟩ := x; exact ⟨_, e⟩
  | xd fs => obtain ⟨_, ⟨_, _, _, e, _⟩, _⟩ := x; exact ⟨_, e⟩
  | rng lo hi => obtain ⟨_, _, _, e⟩ := x; exact ⟨_, e⟩
  | frz ob u => obtain ⟨e, _⟩ := x; exact ⟨_, e⟩
  | tbl ps => exact ⟨_, (show h.get? a = some _ from x)⟩
  | met f y => exact ⟨_, (show h.get? a = some _ from x)⟩
  | ext φ => obtain ⟨_, ⟨_, e⟩, _⟩ := x; exact ⟨_, e⟩
end

/-- how an exception of an own class lies behind a call -/
def CX1 (P : Program) (w : World) : CXT := fun outer H s E e s' => ∃ (a C : Addr) (a0 : Value) (B : Heap) (H' : Hp),
  e = .ref a ∧ s'.os = s.os ∧ AllBare s'.gens ∧ Un (frs outer) [] H H' s.heap s'.heap ∧ HOk P w H' s'.heap ∧ Heap.FlyingW B outer a (.ref C) a0 s'.heap ∧
  (∀ b o, s'.heap.get? b = some o → ((∃ u, H' b = some u) ∨ ∃ u, s.heap.get? b = some u) → b ∉ frs outer → B.get? b = some o) ∧ H' a = none ∧ s.heap.get? a = none ∧ E (.ref C) none H'


/-- the exception moves on: what was there ahead of the call is there still -/
theorem un_flown {P : Program} {w : World} {fs : List Addr} {H1 H2 : Hp} {h1 h2 h3 B : Heap} (u : Un fs [] H1 H2 h1 h2) (ok : HOk P w H2 h2)
    (cond : ∀ b o, h2.get? b = some o → ((∃ u, H2 b = some u) ∨ ∃ u, h1.get? b = some u) → b ∉ fs → B.get? b = some o) (st : B.StaysIn h3) (us : h2.UpToSlots h3)
    (nf : ∀ b ∈ fs, ∃ o, h2.get? b = some o ∧ ∀ vs, o.data ≠ .fields vs) (frf : ∀ b ∈ fs, H2 b = none) : Un fs [] H1 H2 h1 h3 ∧ HOk P w H2 h3 := by
  refine ⟨⟨fun b o e n hb hx => ?_, fun b o e n hb hx => ?_, u.free, fun b o e hx => ?_, u.tups, u.frzs, u.tbls⟩, fun b o e => ?_⟩
  · exact st b o (cond b o (u.keep b o e n hb hx) (.inr ⟨o, e⟩) hb)
  · obtain ⟨sl, e1⟩ := u.slot b o e n hb hx
    obtain ⟨o', e2, hd⟩ := nf b hb
    rw [e1] at e2
    cases e2
    obtain ⟨sl', e3⟩ := us b _ e1 hd
    exact ⟨sl', e3⟩
  · obtain ⟨o', e1⟩ := u.there b o e hx
    by_cases hb : b ∈ fs
    · obtain ⟨o2, e2, hd⟩ := nf b hb
      obtain ⟨sl', e3⟩ := us b _ e2 hd
      exact ⟨_, e3⟩
    · exact ⟨o', st b o' (cond b o' e1 (.inr ⟨o, e⟩) hb)⟩
  · have tr : ∀ c v, H2 c = some v → ∀ x, h2.get? c = some x → h3.get? c = some x := fun c v e x q =>
      st c x (cond c x q (.inl ⟨v, e⟩) fun hb => by rw [frf c hb] at e; cases e)
    refine (ok b o e).stay (fun c v hc q => ?_) (fun _ q => q) fun _ _ q => q
    rcases hc with rfl | hc
    · exact tr c o e v q
    · exact tr c _ hc v q

section
variable {X : Cx} {pins : List (Addr × Obj)} {σ : St} {H : Hp} {s : Shared}
theorem Inv.frs_free (I : Inv X pins σ H s) : ∀ b ∈ frs X.stack, ∃ o, s.heap.get? b = some o ∧ ∀ vs, o.data ≠ .fields vs := fun b hb => (I.stack.mem hb).2

/-- from the call's beginning to where the exception is held: the state as this frame knows it -/
theorem Inv.flown {H2 : Hp} {s2 : Shared} {h3 B : Heap} (I : Inv X pins σ H s) (ho : s2.os = s.os) (hg : AllBare s2.gens) (u : Un (frs X.stack) [] H H2 s.heap s2.heap) (ok : HOk X.prog X.w H2 s2.heap)
    (cond : ∀ b o, s2.heap.get? b = some o → ((∃ u, H2 b = some u) ∨ ∃ u, s.heap.get? b = some u) → b ∉ frs X.stack → B.get? b = some o) (st : B.StaysIn h3) (us : s2.heap.UpToSlots h3) :
    Inv X pins σ H2 { s2 with heap := h3 } := by
  have J : Inv X pins σ H2 s2 := I.call' ho u ok hg (fun b z => absurd z (by simp))
  obtain ⟨u3, ok3⟩ := un_flown u ok cond st us J.frs_free J.stkFree
  exact I.call' (s' := { s2 with heap := h3 }) ho u3 ok3 hg (fun b z => absurd z (by simp))

/-- an exception that leaves this frame, as the caller sees it -/
theorem Inv.leaves {H2 : Hp} {s2 : Shared} {h3 B : Heap} {E : XK} {a C : Addr} {a0 : Value} (I : Inv X pins σ H s) (hex : X.ex = []) (ho : s2.os = s.os) (hg : AllBare s2.gens) (u : Un (frs X.stack) [] H H2 s.heap s2.heap) (ok : HOk X.prog X.w H2 s2.heap)
    (cond : ∀ b o, s2.heap.get? b = some o → ((∃ u, H2 b = some u) ∨ ∃ u, s.heap.get? b = some u) → b ∉ frs X.stack → B.get? b = some o) (us : s2.heap.UpToSlots h3)
    (fl : Heap.FlyingW B X.outer a (.ref C) a0 h3) (ha : H2 a = none) (hn : s.heap.get? a = none) (q : E (.ref C) none H2) : CX1 X.prog X.w X.outer X.H₀ X.s₀ E (.ref a) { s2 with heap := h3 } := by
  have J := I.flown ho hg u ok cond fl.1 us
  have hex' : ∀ b, b ∉ X.ex := fun b z => by rw [hex] at z; cases z
  refine ⟨a, C, a0, B, H2, rfl, J.os, J.bare, hex ▸ J.base, J.hok, fl, fun b o e hb hf => ?_, ha, ?_, q⟩
  · have nl : b ∉ frs X.stack := fun z => by
      rcases List.mem_cons.mp (I.stkSub b z) with z | z
      · rcases hb with ⟨v, hb⟩ | ⟨v, hb⟩
        · rw [z, J.free] at hb; cases hb
        · exact absurd z (Nat.ne_of_lt (Nat.lt_of_lt_of_le (Heap.lt_size hb) I.ok.above))
      · exact hf z
    have key : ∃ o2, s2.heap.get? b = some o2 ∧ ((∃ u, H2 b = some u) ∨ ∃ u, s.heap.get? b = some u) := by
      rcases hb with ⟨v, hb⟩ | ⟨v, hb⟩
      · obtain ⟨o2, e2⟩ := (ok b v hb).some
        exact ⟨o2, e2, .inl ⟨v, hb⟩⟩
      · obtain ⟨o1, e1⟩ := I.base.there b v hb (hex' b)
        obtain ⟨o2, e2⟩ := u.there b o1 e1 (by simp)
        exact ⟨o2, e2, .inr ⟨o1, e1⟩⟩
    obtain ⟨o2, e2, hh⟩ := key
    have hB := cond b o2 e2 hh nl
    have := fl.1 b o2 hB
    have e : h3.get? b = some o := e
    rw [e] at this
    cases this
    exact hB
  · cases q : X.s₀.heap.get? a with
    | none => rfl
    | some v =>
      obtain ⟨o1, e1⟩ := I.base.there a v q (hex' a)
      rw [hn] at e1
      cases e1
end

/-! ### a def that may raise -/
section
variable {P : Program} {w : World} {K : PySem.W.Frag} {mg : Str → Option Value} {base : Heap}
/-- a def that raises nothing -/
theorem FnOk.calm {f : Addr} {fd : FuncData} {ps : List Str} {k : Nat} {sp : Sp} (F : FnOk P w K mg base CX0 k f fd ps sp) : FnOk P w K mg base (CX1 P w) k f fd ps sp :=
  ⟨F.len, fun A outer s H args us vs Q E hr he hb hv hs => codeAny_mono (F.run A outer s H args us vs Q E hr he hb hv hs) fun r s' h => by
    cases r with
    | error e => exact False.elim h
    | ok f => cases f <;> exact h⟩
end
/-- a callee's exception leaves this def too -/
theorem passUp {P : Program} {w : World} {K : PySem.W.Frag} {mg : Str → Option Value} {base : Heap} {N : List Str} {qual : Str} {scope : Scope} {f : Addr} {cd : Value} {A : Around} {outer : List Env} {s : Shared} {H : Hp} {E : XK} :
    Passes (CX1 P w) (cxOf (CX1 P w) P w K mg base N qual scope f cd A outer s H E) E := fun pins σ H1 s1 e s2 I h => by
  obtain ⟨a, C, a0, B, H2, rfl, ho, hg, u, ok, fl, cond, ha, hn, q⟩ := h
  show wpAny _ _ (leaving _ _) _ _ _
  refine wpAny_leaves_onW I.ok.frames rfl fl fun h3 fl3 us => ?_
  exact I.leaves rfl ho hg u ok cond us fl3 ha hn q

/-! ### raise -/
/-- an own class of exceptions -/
structure Exc (K : PySem.W.Frag) (mg : Str → Option Value) (x : Str) (C : Addr) : Prop where
  m : mg x = some (.ref C)
  x : PySem.W.excIn K C [.type "ValueError", .type "Exception", .type "BaseException", .type "object"] "ValueError.__new__" = true

section
variable {P : Program} {w : World} {K : PySem.W.Frag} {mg : Str → Option Value} {base : Heap} {N : List Str} {qual : Str} {scope : Scope} {f : Addr} {cd : Value} {A : Around} {outer : List Env} {s : Shared} {H : Hp} {E : XK}
end
end L2

namespace L2
open PySem PySem.Spec PyProof.Rows

/-- C is C' or stands under it; C' may be caught -/
structure Sub (K : PySem.W.Frag) (C C' : Addr) : Prop where
  k : PySem.W.kitCls K (.ref C) (.ref C') = some true
  b : PySem.W.subIn K (.ref C') (.type "BaseException") = some true


/-- an exception object -/
def excO (a C : Addr) : HO := .ext fun h => ∃ o, h.get? a = some o ∧ o.cls = .ref C
theorem isE_ans {K : PySem.W.Frag} {a C : Addr} {c : Value} (e : PySem.W.kitCls K (.ref C) c = some true) (hne : (Value.ref C == c) = false) : PySem.Answers (fun s => K.In s.heap ∧ ∃ o, s.heap.get? a = some o ∧ o.cls = .ref C) (.ref a) c true := by
  intro dep tk prog w A R s hs
  obtain ⟨h0, g, d, tt, os⟩ := s
  obtain ⟨⟨X, o, ho, hc⟩, hq⟩ := hs
  have LT : PySem.W.Looks (model prog w) h0 (typeOf (.ref a)) (.ref C) := hc ▸ (PySem.W.Looks.ld ho).andThen .now
  unfold Builtin.«isinstance.nested»
  refine wpAny_bind (LT.at ?_)
  rw [if_neg (by rw [hne]; exact Bool.false_ne_true)]
  obtain ⟨hty, his, hsub⟩ := PySem.W.kit_cls (M := model prog w) X e
  have LI : PySem.W.Looks (model prog w) h0 (isInstance (.ref a) c) true := LT.andThen hsub
  refine wpAny_bind (hty.at ?_)
  rw [if_pos (by decide)]
  k_delta "plainIsInstance"
  refine wpAny_bind (wpAny_bind (his.at ?_))
  simp only [Bool.not_true, Bool.false_eq_true, if_false]
  refine wpAny_bind (LI.at ?_)
  first
    | exact wpAny_pure (wpAny_pure (hq tt))
    | (simp only [if_true]; first | exact wpAny_pure (wpAny_pure (hq tt)) | exact wpAny_pure (hq tt) | exact wpAny_bind (wpAny_pure (wpAny_pure (hq tt))))
theorem call_isE {X : Cx} : CallR X (.builtin "isinstance") (fun xs H Q => ∃ a C n, xs = [.ref a, .ty n] ∧ H a = some (excO a C) ∧ PySem.W.kitCls X.K (.ref C) (.type n) = some true ∧ Q (.bl true) H) := by
  intro pins s σ H xs us Q I r h
  obtain ⟨a, C, n, rfl, ha, e, q⟩ := h
  obtain ⟨u, v, rfl, rx, ry⟩ := Vals.two r
  cases rx
  cases ry
  have ho : ∃ o, s.heap.get? a = some o ∧ o.cls = .ref C := (show ObjOk X.prog X.w H s.heap a (.ext fun h => ∃ o, h.get? a = some o ∧ o.cls = .ref C) from I.hok a _ ha).1
  exact call_isinstance (S := fun _ R s => (X.K.In s.heap ∧ ∃ o, s.heap.get? a = some o ∧ o.cls = .ref C) ∧ ∀ tk, R (.ok (.ret (.bool true))) { s with toks := tk })
    (fun prog w A R s hs => isinstance_outer (isE_ans e rfl 0 _ prog w A R s hs) (by intro z; cases z)) ⟨⟨I.kIn, ho⟩, fun tk => ⟨.bl true, H, I.tok tk, rfl, q⟩⟩
end L2

namespace L2
open PySem PySem.Spec PyProof.Rows

/-! ### try: one clause -/

section
variable {X : Cx} {pins pn : List (Addr × Obj)} {σ : St} {H : Hp} {s : Shared} {a : Addr}


end

section
variable {X : Cx} {k : Nat} {f : Addr} {fd : FuncData} {ps : List Str} {sp : Sp} {x : Str} {p pos : Pos} {e : Expr} {es : List Expr} {t : TA} {pn : List (Addr × Obj)} {W : Value → St → Hp → Prop}
end

section
variable {X : Cx} {body suite : List Stmt} {b₀ : Stmt} {y : Str} {np hpos pos : Pos} {C' : Addr} {tb : (Value → St → Hp → Prop) → TS} {ts : TS}


end
end L2

namespace HT
open PySem PyProof.Rows
section
variable {prog : Program} {w : World} {A : Around} {E : Value → Shared → Prop} {s : Shared}



end
end HT

namespace L2
open PySem PySem.Spec PyProof.Rows
section
variable {X : Cx} {e : Expr} {te : TE} {pos p2 p3 p4 : Pos} {jj : Nat}
end
section
variable {X : Cx} {es : List Expr} {t : TA} {pos : Pos}
/-! ### what is new, without its heap -/
def tTupN (t : TA) : TE := fun σ H Q => t σ H fun xs H1 => xs.length ≤ sizeLine ∧ ∀ p H', H1 p = none → Same H1 H' → H' p = some (.tup xs) → Q (.ref p) H'
def tLstN (t : TA) : TE := fun σ H Q => t σ H fun xs H1 => xs.length ≤ sizeLine ∧ ∀ p H', H1 p = none → Same H1 H' → H' p = some (.lst xs) → Q (.ref p) H'
theorem pe_tupN {x1} (h : PA X es t) : PE X (.Tuple es x1 pos) (tTupN t) := by
  intro pins s σ H Q I hq
  refine wpAny_Tuple_spliced (thn (h pos pins s σ H _ I hq) fun us s1 ⟨xs, H1, I1, r, z, q⟩ => ⟨by rw [← r.length]; exact z, ?_⟩)
  have hf : H1 s1.heap.objs.size = none := I1.hok.fresh (Nat.le_refl _)
  refine ⟨.ref s1.heap.objs.size, upd H1 s1.heap.objs.size (.tup xs), I1.laid (t' := s1.toks) (fun b u e => Heap.get?_push_of_some _ e) (Nat.le_refl _) ?_, rfl, q _ _ hf (same_fresh _ hf) upd_same⟩
  exact ⟨z, us, r, ⟨_, Heap.get?_push_size _ rfl, rfl, _, rfl⟩⟩
theorem pe_lstN (h : PA X es t) : PE X (.List es pos) (tLstN t) := by
  intro pins s σ H Q I hq
  refine wpAny_List_spliced (thn (h pos pins s σ H _ I hq) fun us s1 ⟨xs, H1, I1, r, z, q⟩ => ⟨by rw [← r.length]; exact z, ?_⟩)
  have hf : H1 s1.heap.objs.size = none := I1.hok.fresh (Nat.le_refl _)
  refine ⟨.ref s1.heap.objs.size, upd H1 s1.heap.objs.size (.lst xs), I1.laid (t' := s1.toks) (fun b u e => Heap.get?_push_of_some _ e) (Nat.le_refl _) ?_, rfl, q _ _ hf (same_fresh _ hf) upd_same⟩
  exact ⟨z, us, 0, r, Heap.get?_push_size _ rfl⟩
theorem call_list_ofN : CallR X (.type "list") (fun xs H Q => ∃ p ys, xs = [.ref p] ∧ (SqL X.K H p ys ∨ SqT X.K H p ys) ∧ ∀ l H', H l = none → Same H H' → H' l = some (.lst ys) → Q (.ref l) H') := by
  intro pins s σ H xs us Q I r h
  obtain ⟨p, ys, e, hp, q⟩ := h
  exact call_list_of pins s σ H xs us Q I r ⟨p, ys, e, hp, fun l hl => q l _ hl (same_fresh _ hl) upd_same⟩
theorem call_tuple_ofN : CallR X (.type "tuple") (fun xs H Q => ∃ p ys, xs = [.ref p] ∧ (SqL X.K H p ys ∨ SqT X.K H p ys) ∧ ∀ l H', Same H H' → SqT X.K H' l ys → Q (.ref l) H') := by
  intro pins s σ H xs us Q I r h
  obtain ⟨p, ys, e, hp, q⟩ := h
  refine call_tuple_of pins s σ H xs us Q I r ⟨p, ys, e, ?_⟩
  rcases hp with hp | hp
  · exact .inl ⟨hp, fun l hl => q l _ (same_fresh _ hl) (.inl (.inl upd_same))⟩
  · exact .inr ⟨hp, q p H (Same.refl H) hp⟩
end
end L2

namespace L2
open PySem PySem.Spec PyProof.Rows
/-! ### arguments, without unfolding them -/
def notStar : Expr → Bool
  | .Starred _ _ => false
  | _ => true
theorem star_cons {e : Expr} {es : List Expr} {env : Env} (h : notStar e = true) : starEach (e :: es) env = (false, eval e env) :: starEach es env := by
  cases e <;> first | rfl | cases h
def noStars : List Expr → Bool
  | [] => true
  | e :: es => notStar e && noStars es
theorem star_any {env : Env} {pos : Pos} : ∀ {es : List Expr}, noStars es = true → (backTo pos (starEach es env)).any (·.1) = false
  | [], _ => rfl
  | e :: es, h => by
    simp only [noStars, Bool.and_eq_true] at h
    rw [star_cons h.1]
    show (false || (backTo pos (starEach es env)).any (·.1)) = false
    rw [star_any h.2]
    rfl
theorem star_all {env : Env} {pos : Pos} : ∀ {es : List Expr}, noStars es = true → (backTo pos (starEach es env)).all (fun x => !x.1) = true
  | [], _ => rfl
  | e :: es, h => by
    simp only [noStars, Bool.and_eq_true] at h
    rw [star_cons h.1]
    show (true && (backTo pos (starEach es env)).all (fun x => !x.1)) = true
    rw [star_all h.2]
    rfl
theorem call_isE_K {X : Cx} {K : PySem.W.Frag} (h : X.K = K) : CallR X (.builtin "isinstance") (fun xs H Q => ∃ a C n, xs = [.ref a, .ty n] ∧ H a = some (excO a C) ∧ PySem.W.kitCls K (.ref C) (.type n) = some true ∧ Q (.bl true) H) := by subst h; exact call_isE
theorem call_isD_K {X : Cx} {K : PySem.W.Frag} (h : X.K = K) : CallR X (.builtin "isinstance") (fun xs H Q => ∃ x n d b, xs = [x, .ty n] ∧ DatAt K H x d ∧ PySem.W.kitOne K (.type (tyD d)) (.type n) = some b ∧ Q (.bl b) H) := by subst h; exact call_isD
section
variable {X : Cx} {e o : Expr} {es : List Expr} {te to : TE} {t : TA} {x name : Str} {p pos apos cpos : Pos} {id T : String} {r : List V → Hp → VK → Prop} {k : Nat} {f : Addr} {fd : FuncData} {ps : List Str} {sp : Sp} {CX : CXT} {E : XK} {pn : List (Addr × Obj)} {W : Value → St → Hp → Prop}
theorem pa_c (ha : PE X e te) (hr : PA X es t) (hs : notStar e = true := by rfl) : PA X (e :: es) (tCons te t) := pa_cons ha hr (star_cons hs)
theorem pe_callF (F : FnOk X.prog X.w X.K X.mg X.base CX k f fd ps sp) (hr : Room k X.A) (hg : Gl X x) (hm : X.mg x = some (.ref f)) (hk : PySem.W.keepIn X.K (.ref f) = true) (hb : Binds X.K fd ps []) (hx : Passes CX X E)
    (ha : PA X (e :: es) t) (hdb : (x == ("__debug__" : Str)) = false := by decide) (hs : noStars (e :: es) = true := by rfl) : PE X (.Call (.Name x p) (e :: es) [] pos) (tCall sp [] E t) := by
  simp only [noStars, Bool.and_eq_true] at hs
  exact pe_call F hr hg hm hk hb .nil hx ha hdb (star_cons hs.1) (star_any hs.2)
theorem pe_callBF (hc : CallR X (.builtin id) r) (hg : Gl X x) (hm : X.mg x = none) (hv : bootBuiltins x = some (.builtin id)) (ha : PA X (e :: es) t) (hn : x ≠ "__name__" := by decide) (hdb : (x == ("__debug__" : Str)) = false := by decide)
    (hs : noStars (e :: es) = true := by rfl) : PE X (.Call (.Name x p) (e :: es) [] pos) (tCB r t) := by
  simp only [noStars, Bool.and_eq_true] at hs
  exact pe_callB hc hg hm hv ha hn hdb (star_cons hs.1) (star_any hs.2)
theorem pe_callTyF (hc : CallR X (.type T) r) (hg : Gl X x) (hm : X.mg x = none) (hv : bootBuiltins x = some (.type T)) (ha : PA X (e :: es) t) (hn : x ≠ "__name__" := by decide) (hdb : (x == ("__debug__" : Str)) = false := by decide)
    (hs : noStars (e :: es) = true := by rfl) : PE X (.Call (.Name x p) (e :: es) [] pos) (tCB r t) := by
  simp only [noStars, Bool.and_eq_true] at hs
  exact pe_callTy hc hg hm hv ha hn hdb (star_cons hs.1) (star_any hs.2)
theorem pe_bmF {rm : V → List V → Hp → VK → Prop} (pa : PlainAttrs T) (slot : Slot T name id) (hty : typeOf (.builtin id) = pure (.type "method_descriptor")) (hm : MtR X id rm) (ho : PE X o to) (ha : PA X (e :: es) t)
    (hbase : attributeBase o name X.env (eval o X.env) = eval o X.env := by rfl) (hl : decide ((e :: es).length + 0 + 0 < 30) = true := by rfl)
    (hline : (apos.endLine == cpos.line) = true := by rfl) (hs : noStars (e :: es) = true := by rfl) :
    PE X (.Call (.Attribute o name apos) (e :: es) [] cpos) (tBM X.K T rm to t) := by
  have hs' := hs
  simp only [noStars, Bool.and_eq_true] at hs
  refine pe_bm pa slot hty hm ho ha hbase ?_ hline (star_cons hs.1) (star_any hs.2)
  rw [star_all hs']
  show (true && true && decide ((e :: es).length + 0 + 0 < 30)) = true
  rw [hl]
  rfl
end
end L2

namespace L2
open PySem PySem.Spec PyProof.Rows
/-! ### the judgements, shut: a term of rules is put together without their being opened -/
structure WE (X : Cx) (e : Expr) (t : TE) : Prop where
  r : PE X e t
structure WT (X : Cx) (e : Expr) (t : TT) : Prop where
  r : PT X e t
structure WW (X : Cx) (e : Expr) (t : TT) : Prop where
  r : PW X e t
structure WA (X : Cx) (es : List Expr) (t : TA) : Prop where
  r : PA X es t
structure WS (X : Cx) (st : Stmt) (t : TS) : Prop where
  r : PS X st t
structure WZ (X : Cx) (st : List Stmt) (t : TS) : Prop where
  r : PSs X st t
structure WG (X : Cx) (e : Expr) (t : TG) : Prop where
  r : PG X e t
structure WGs (X : Cx) (es : List Expr) (t : TGs) : Prop where
  r : PGs X es t
structure WI (X : Cx) (tg it : Expr) (t : TI) : Prop where
  r : PI X tg it t
structure WO (X : Cx) (e : Option Expr) (t : TO) : Prop where
  r : PO X e t
structure WTs (X : Cx) (es : List Expr) (t : TT) : Prop where
  r : PTs X es t
section
variable {X : Cx} {a b c e f o i tg iter elt value : Expr} {es ifs rest : List Expr} {te ta tb tc td ty tx to ti tv tl : TE} {t : TA} {tA tB' : TT} {pos p p2 p3 p4 apos cpos np hpos pos' : Pos} {T id : String} {x y name : Str} {r : List V → Hp → VK → Prop}
  {k : Nat} {fa C C' : Addr} {fd : FuncData} {ps : List Str} {sp : Sp} {CX : CXT} {E : XK} {pn : List (Addr × Obj)} {W : Value → St → Hp → Prop} {jj : Nat} {st b₀ : Stmt} {body suite sts : List Stmt} {u ts : TS}
theorem wpv (i : Nat) {x : Str} {pos : Pos} (hN : X.N[i]? = some x := by rfl) (hv : Vis X.env.scope x := by first | exact Or.inl rfl | exact Or.inr (Or.inl rfl) | exact Or.inr (Or.inr rfl)) (hd : (x == ("__debug__" : Str)) = false := by decide)
    (hcd : (x == ("__classdict__" : Str)) = false := by decide) : WE X (.Name x pos) (tVar i) := ⟨pe_var hN hv hd hcd⟩
theorem wpe_bltn {v : V} {u : Value} (hg : Gl X x) (hm : X.mg x = none) (hv : bootBuiltins x = some u) (r : RelV v u) (hn : x ≠ "__name__" := by decide) (hd : (x == ("__debug__" : Str)) = false := by decide) : WE X (.Name x pos) (tC v) := ⟨pe_bltn hg hm hv r hn hd⟩
theorem wpe_glob {v : V} {u : Value} (hg : Gl X x) (hm : X.mg x = some u) (r : RelV v u) (hd : (x == ("__debug__" : Str)) = false := by decide) : WE X (.Name x pos) (tC v) := ⟨pe_glob hg hm r hd⟩
theorem wpe_bl {b j pos} : WE X (.Constant (.bool b) j pos) (tC (.bl b)) := ⟨pe_bl⟩
theorem wpe_int {i j pos} : WE X (.Constant (.int i) j pos) (tC (.int i)) := ⟨pe_int⟩
theorem wpe_op {op : Operator} {r : R2} (ho : OpR X (binaryOp op) r) (ha : WE X a ta) (hb : WE X b tb) : WE X (.BinOp a op b pos) (tOp r ta tb) := ⟨pe_op ho ha.r hb.r⟩
theorem wpe_un {op : UnaryOp} {r : V → Hp → VK → Prop} (ho : UnR X (unaryOp op) r) (ha : WE X a ta) : WE X (.UnaryOp op a pos) (tUn r ta) := ⟨pe_un ho ha.r⟩
theorem wpe_one {op} {t : TE} (h : WE X a t) : WE X (.BoolOp op [a] pos) t := ⟨pe_one h.r⟩
theorem wpe_and (ha : WE X a ta) (hb : WE X (.BoolOp .And (b :: rest) pos) tb) : WE X (.BoolOp .And (a :: b :: rest) pos) (tAndV ta tb) := ⟨pe_and ha.r hb.r⟩
theorem wpe_cmpR {op : CmpOp} {r : R2} (ho : OpR X (compareOp op) r) (ha : WE X a ta) (hb : WE X b tb) (hm : behindInMarks op b = false) : WE X (.Compare a [op] [b] pos) (tOp r ta tb) := ⟨pe_cmpR ho ha.r hb.r hm⟩
theorem wpe_chain {op op' : CmpOp} {r r' : R2} (ho : OpR X (compareOp op) r) (ho' : OpR X (compareOp op') r') (ha : WE X a ta) (hb : WE X b tb) (hc : WE X c tc) (hm : lastMarks [op, op'] [b, c] = false := by with_unfolding_all rfl) :
    WE X (.Compare a [op, op'] [b, c] pos) (tChain r r' ta tb tc) := ⟨pe_chain ho ho' ha.r hb.r hc.r hm⟩
theorem wpe_tupN {x1} (h : WA X es t) : WE X (.Tuple es x1 pos) (tTupN t) := ⟨pe_tupN h.r⟩
theorem wpe_lstN (h : WA X es t) : WE X (.List es pos) (tLstN t) := ⟨pe_lstN h.r⟩
theorem wpe_dnewK : WE X (.Dict [] [] pos) tDNewK := ⟨pe_dnewK⟩
theorem wpe_ix {r : R2} (hr : IxR X r) (ha : WE X a ta) (hb : WE X b tb) (hs : PlainIx b) : WE X (.Subscript a b pos) (tOp r ta tb) := ⟨pe_ix hr ha.r hb.r hs⟩
theorem wpe_bmF {rm : V → List V → Hp → VK → Prop} (pa : PlainAttrs T) (slot : Slot T name id) (hty : typeOf (.builtin id) = pure (.type "method_descriptor")) (hm : MtR X id rm) (ho : WE X o to) (ha : WA X (e :: es) t)
    (hbase : attributeBase o name X.env (eval o X.env) = eval o X.env := by rfl) (hl : decide ((e :: es).length + 0 + 0 < 30) = true := by rfl)
    (hline : (apos.endLine == cpos.line) = true := by rfl) (hs : noStars (e :: es) = true := by rfl) : WE X (.Call (.Attribute o name apos) (e :: es) [] cpos) (tBM X.K T rm to t) := ⟨pe_bmF pa slot hty hm ho.r ha.r hbase hl hline hs⟩
theorem wpe_bm0 {rm : V → List V → Hp → VK → Prop} (pa : PlainAttrs T) (slot : Slot T name id) (hty : typeOf (.builtin id) = pure (.type "method_descriptor")) (hm : MtR X id rm) (ho : WE X o to)
    (hbase : attributeBase o name X.env (eval o X.env) = eval o X.env := by rfl) (hline : (apos.endLine == cpos.line) = true := by rfl) : WE X (.Call (.Attribute o name apos) [] [] cpos) (tBM0 X.K T rm to) := ⟨pe_bm0 pa slot hty hm ho.r hbase hline⟩
theorem wpe_dget2 (hu : X.A.units + 1 < cLine) (ho : WE X o td) (he : WE X e ty) (hf : WE X f tx) (m : M2 X o "get" apos e f cpos) : WE X (.Call (.Attribute o "get" apos) [e, f] [] cpos) (tDGet2 td ty tx) := ⟨pe_dget2 hu ho.r he.r hf.r m⟩
theorem wpe_callF (F : FnOk X.prog X.w X.K X.mg X.base CX k fa fd ps sp) (hr : Room k X.A) (hg : Gl X x) (hm : X.mg x = some (.ref fa)) (hk : PySem.W.keepIn X.K (.ref fa) = true) (hb : Binds X.K fd ps []) (hx : Passes CX X E)
    (ha : WA X (e :: es) t) (hdb : (x == ("__debug__" : Str)) = false := by decide) (hs : noStars (e :: es) = true := by rfl) : WE X (.Call (.Name x p) (e :: es) [] pos) (tCall sp [] E t) := ⟨pe_callF F hr hg hm hk hb hx ha.r hdb hs⟩
theorem wpe_callBF (hc : CallR X (.builtin id) r) (hg : Gl X x) (hm : X.mg x = none) (hv : bootBuiltins x = some (.builtin id)) (ha : WA X (e :: es) t) (hn : x ≠ "__name__" := by decide) (hdb : (x == ("__debug__" : Str)) = false := by decide)
    (hs : noStars (e :: es) = true := by rfl) : WE X (.Call (.Name x p) (e :: es) [] pos) (tCB r t) := ⟨pe_callBF hc hg hm hv ha.r hn hdb hs⟩
theorem wpe_callTyF (hc : CallR X (.type T) r) (hg : Gl X x) (hm : X.mg x = none) (hv : bootBuiltins x = some (.type T)) (ha : WA X (e :: es) t) (hn : x ≠ "__name__" := by decide) (hdb : (x == ("__debug__" : Str)) = false := by decide)
    (hs : noStars (e :: es) = true := by rfl) : WE X (.Call (.Name x p) (e :: es) [] pos) (tCB r t) := ⟨pe_callTyF hc hg hm hv ha.r hn hdb hs⟩
theorem wpe_comp {scope : Scope} {cl : List (Str × Addr)} {NB : List Str} {n : Nat} {capN : List Nat} {wi : TI} {g : TG} {tt : TT} (D : CompOk X scope cl NB n capN) (hc : X.calm = true) (gk : GKeeps n g) (hi : WI X tg iter wi)
    (hg : ∀ C fp s3 H3, WG (cxC X scope cl NB C fp s3 H3) tg g) (ht : ∀ C fp s3 H3, WTs (cxC X scope cl NB C fp s3 H3) ifs tt) (he : ∀ C fp s3 H3, WE (cxC X scope cl NB C fp s3 H3) elt te)
    (hs : ∀ x, foldedSetIterable iter X.env x = pure x := by intro _; rfl) : WE X (.ListComp elt [⟨tg, iter, ifs, 0⟩] scope pos) (tComp wi n capN g tt te) := ⟨pe_comp D hc gk hi.r (fun C fp s3 H3 => (hg C fp s3 H3).r) (fun C fp s3 H3 => (ht C fp s3 H3).r) (fun C fp s3 H3 => (he C fp s3 H3).r) hs⟩
theorem wpi_range1 (hg : Gl X "range") (hm : X.mg "range" = none) (ha : WA X [a] t) (hs : notStar a = true := by rfl) : WI X tg (.Call (.Name "range" p) [a] [] pos) (iRng1 t) := ⟨pi_range1 hg hm ha.r (star_cons hs)⟩
theorem wpi_list (hl : WE X e te) : WI X tg e (iList X.K te) := ⟨pi_list hl.r⟩
theorem wpi_tup (hl : WE X e te) : WI X tg e (iTup X.K te) := ⟨pi_tup hl.r⟩
theorem wpg_name {i : Nat} (hN : X.N.Nodup) (hi : X.N[i]? = some x) (hx : Loc X.env.scope x) (hf : X.fn x = true ∨ X.env.scope.names.lookup x = some .local := by first | exact .inl rfl | exact .inr rfl | assumption) : WG X (.Name x pos) (gName i) := ⟨pg_name hN hi hx hf⟩
theorem wpg_tup {k : Nat} {t : TGs} {n : Nat} (hc : X.calm = true) (h : WGs X es t) (hn : (assignEach es X.env).length = n := by rfl) (hst : (assignEach es X.env).findIdx? (·.1) = none := by rfl) : WG X (.Tuple es k pos) (gTup X.K n t) := ⟨pg_tup hc h.r hn hst⟩
theorem wpgs_nil : WGs X [] gNil := ⟨pgs_nil⟩
theorem wpgs_cons {t : TG} {u : TGs} (h1 : WG X e t) (h2 : WGs X es u) (hs : (assignEach (e :: es) X.env).map (·.2) = assign e X.env :: (assignEach es X.env).map (·.2) := by rfl) : WGs X (e :: es) (gCons t u) := ⟨pgs_cons h1.r h2.r hs⟩
theorem wpts_nil : WTs X [] tYes := ⟨pts_nil⟩
theorem wpts_one (h : WT X c tA) : WTs X [c] tA := ⟨pts_one h.r⟩
theorem wpt_cmpR {op : CmpOp} {r : R2} (ho : OpR X (compareOp op) r) (ha : WE X a ta) (hb : WE X b tb) (hm : behindInMarks op b = false) : WT X (.Compare a [op] [b] pos) (tTest (tOp r ta tb)) := ⟨pt_cmpR ho ha.r hb.r hm⟩
theorem wpt_chain {op op' : CmpOp} {r r' : R2} (ho : OpR X (compareOp op) r) (ho' : OpR X (compareOp op') r') (ha : WE X a ta) (hb : WE X b tb) (hc : WE X c tc) (hm : lastMarks [op, op'] [b, c] = false := by with_unfolding_all rfl) :
    WT X (.Compare a [op, op'] [b, c] pos) (tTest (tChain r r' ta tb tc)) := ⟨pt_chain ho ho' ha.r hb.r hc.r hm⟩
theorem wpt_not (ha : WT X a tA) : WT X (.UnaryOp .Not a pos) (tNot tA) := ⟨pt_not ha.r⟩
theorem wpt_val {t : TE} (h : WE X e t) (he : ∀ whole, isTrue e X.env whole = (do let v ← whole; standAt e.pos; holding [v] (truthy v)) := by intro _; rfl) : WT X e (tB t) := ⟨pt_val h.r he⟩
theorem wpw_pt (h : WW X e tA) : WT X e tA := ⟨h.r.pt⟩
theorem wpw_or (ha : WT X a tA) (hb : WW X (.BoolOp .Or (b :: rest) pos) tB') : WW X (.BoolOp .Or (a :: b :: rest) pos) (tOr tA tB') := ⟨pw_or ha.r hb.r⟩
theorem wpw_or1 (ha : WT X a tA) : WW X (.BoolOp .Or [a] pos) tA := ⟨pw_or1 ha.r⟩
theorem wps_set {i : Nat} (hN : X.N.Nodup) (hi : X.N[i]? = some x) (hx : Loc X.env.scope x) (he : WE X e te) (hs : swapsWith e (some (.Name x pos')) pos.line X.env = pure false := by rfl)
    (hf : X.fn x = true ∨ X.env.scope.names.lookup x = some .local := by first | exact .inl rfl | exact .inr rfl | assumption) : WS X (.Assign [.Name x pos'] e pos) (tAsg te (gName i)) := ⟨ps_set hN hi hx he.r hs hf⟩
theorem wps_dput (hu : X.A.units + 1 < cLine) (ho : WE X o td) (hi : WE X i ty) (hv : WE X value tv) (hs : swapsWith value (some (.Subscript o i pos')) pos.line X.env = pure false) : WS X (.Assign [.Subscript o i pos'] value pos) (sDPut td ty tv) := ⟨ps_dput hu ho.r hi.r hv.r hs⟩
theorem wps_expr (he : WE X e te) (hs : swapsWith e none pos.line X.env = pure false := by rfl) : WS X (.Expr e pos) (tDrop te) := ⟨ps_expr he.r hs⟩
theorem wps_if {tc : TT} {ba bb : List Stmt} {t u : TS} (hc : WT X c tc) (ha : WZ X ba t) (hb : WZ X bb u) : WS X (.If c ba bb pos) (tIfS tc t u) := ⟨ps_if hc.r ha.r hb.r⟩
theorem wps_for {wi : TI} {g : TG} {tb : TS} (hp : PassesOwn (model X.prog X.w) X.A X.env X.xe) (hc : X.calm = true) (hi : WI X tg iter wi) (hg : WG X tg g) (hb : WZ X body tb) (hs : ∀ x, foldedSetIterable iter X.env x = pure x := by intro _; rfl) :
    WS X (.For tg iter body [] pos) (tFor wi g tb) := ⟨ps_for hp hc hi.r hg.r hb.r hs⟩
theorem wps_while {tc : TT} {tb : TS} (hp : PassesOwn (model X.prog X.w) X.A X.env X.xe) (hc : WT X c tc) (hb : WZ X body tb) : WS X (.While c body [] pos) (tWhile tc tb) := ⟨ps_while hp hc.r hb.r⟩
theorem wps_ret (he : WE X e te) : WS X (.Return (some e) pos) (tRet te) := ⟨ps_ret he.r⟩
theorem wps_never : WS X st tNever := ⟨ps_never⟩
theorem wpss_nil : WZ X [] tNext := ⟨pss_nil⟩
theorem wpss_one {t : TS} (h1 : WS X st t) : WZ X [st] t := ⟨pss_one h1.r⟩
theorem wpss_cons {t u : TS} (h1 : WS X st t) (h2 : WZ X sts u) : WZ X (st :: sts) (tSeq t u) := ⟨pss_cons h1.r h2.r⟩
theorem wpa_c (ha : WE X e te) (hr : WA X es t) (hs : notStar e = true := by rfl) : WA X (e :: es) (tCons te t) := ⟨pa_c ha.r hr.r hs⟩
theorem wpa_nil : WA X [] tNil := ⟨pa_nil⟩
end
section
variable {P : Program} {w : World} {K : PySem.W.Frag} {mg : Str → Option Value} {base : Heap} {N : List Str} {qual : Str} {scope : Scope} {f : Addr} {cd : Value} {A : Around} {outer : List Env} {s : Shared} {H : Hp} {E : XK}
theorem Fun.okW {x qual : Str} {st : Stmt} {f : Addr} {fd : FuncData} {N ps : List Str} {k : Nat} {sp : Sp} (F : Fun K x qual st f fd) (S : FnScope N ps (defScope st)) (len : ∀ vs H Q E, sp vs H Q E → vs.length = ps.length)
    (hbody : ∀ (cdv : Value) (A : Around) (outer : List Env) (s : Shared) (H : Hp) (vs : List V) (Q : VK) (E : XK), Room k (A.deeper (envOfC qual (defScope st) s.heap.objs.size f cdv)) → sp vs H Q E →
      ∃ t, WZ (cxOf CX0 P w K mg base N qual (defScope st) f cdv A outer s H E).nox (defBody st) t ∧ t { nx := fun _ H' => Q .non H', rt := Q } (start N vs) H) : FnOk P w K mg base CX0 (k + 1) f fd ps sp :=
  F.ok S len fun cdv A outer s H vs Q E hr h => let ⟨t, q1, q2⟩ := hbody cdv A outer s H vs Q E hr h; ⟨t, q1.r, q2⟩
end
end L2

namespace L2
open PySem PySem.Spec PyProof.Rows
/-! ### great numbers -/
def CMulK (i j : Int) : Prop := i.natAbs < 2 ^ 4000 ∧ j.natAbs < 2 ^ 4000
theorem bits_le {i : Int} {m : Nat} (h : i.natAbs < 2 ^ m) : PySem.Builtin.Int.intBits i ≤ m := by
  unfold PySem.Builtin.Int.intBits
  by_cases h0 : i = 0
  · subst h0
    rw [if_pos (by decide)]
    exact Nat.zero_le _
  · rw [if_neg (by simpa using h0)]
    have : i.natAbs.log2 < m := (Nat.log2_lt (by omega)).mpr h
    omega
theorem CMulK.ok {i j : Int} (h : CMulK i j) : IntMulOk i j := by
  have h1 := bits_le h.1
  have h2 := bits_le h.2
  have hc : Builtin.Int.intTooBig (Builtin.Int.intBits i + Builtin.Int.intBits j) = false := by
    unfold Builtin.Int.intTooBig bitsLine
    exact decide_eq_false (by omega)
  unfold IntMulOk
  rw [hc]
  simp
def CDivK (_ j : Int) : Prop := j ≠ 0 ∧ j.natAbs < 2 ^ 8000
section
variable {X : Cx}
theorem op_mulK : OpR X (binaryOp .Mult) (rI CMulK fun i j => .int (i * j)) := opI fun _ _ _ _ _ _ _ hc q => mul_int q hc.ok
theorem op_fdivK : OpR X (binaryOp .FloorDiv) (rI CDivK fun i j => .int (i.fdiv j)) := opI fun _ j _ _ _ _ _ hc q => floordiv_int hc.1 q (.inl (PyProof.noPylong_of_log2 (by
  have := (Nat.log2_lt (n := j.natAbs) (k := 8000) (by have := hc.1; omega)).mpr hc.2
  omega)))
end
end L2

namespace L2
open PySem PySem.Spec PyProof.Rows
section
variable {X : Cx} {scope : Scope} {cl : List (Str × Addr)} {NB : List Str} {n : Nat} {capN : List Nat} {tg iter elt : Expr} {ifs : List Expr} {pos spos py : Pos} {wi : TI} {g : TG} {tt : TT} {te : TE} {y : Str}
/-- y = [elt for tg in iter if ..], on one line -/
theorem ps_setc {i : Nat} (hN : X.N.Nodup) (hi' : X.N[i]? = some y) (hx : X.env.scope.names.lookup y = some .local) (D : CompOk X scope cl NB n capN) (hc : X.calm = true) (gk : GKeeps n g) (hi : PI X tg iter wi)
    (hg : ∀ C fp s3 H3, PG (cxC X scope cl NB C fp s3 H3) tg g) (ht : ∀ C fp s3 H3, PTs (cxC X scope cl NB C fp s3 H3) ifs tt) (he : ∀ C fp s3 H3, PE (cxC X scope cl NB C fp s3 H3) elt te)
    (hs : ∀ x, foldedSetIterable iter X.env x = pure x := by intro _; rfl) (hsw : swapsWith (.ListComp elt [⟨tg, iter, ifs, 0⟩] scope pos) (some (.Name y py)) spos.line X.env = pure true := by rfl) :
    PS X (.Assign [.Name y py] (.ListComp elt [⟨tg, iter, ifs, 0⟩] scope pos) spos) (tAsg (tComp wi n capN g tt te) (gName i)) := by
  intro pins s σ H DD I h
  rw [exec_Assign_Name_used _ _ _ _ hsw]
  refine wpAny_bind (wpAny_standAt (wpAny_bind ?_))
  show wpAny _ X.A (do let _ ← comprehension (.ListComp elt [⟨tg, iter, ifs, 0⟩] scope pos) scope X.env _ (newList []) false (eval iter X.env) (some (assign (.Name y py) X.env))) _ _ s
  refine wpAny_bind (wpAny_mono (wpAny_comprehension_free (use := some (assign (.Name y py) X.env)) (Q := fun _ s' => SP X pins DD .next s') rfl hs D.clos D.kind D.names
    (thn (hi pins s σ H _ I h) fun v s1 h1 => thn h1 fun itv s2 h2 => ?_)) (fun _ s' hq => wpAny_pure (wpAny_pure hq)) fun _ _ e => e)
  obtain ⟨it, fp, tn, J, H2, e, I2, T, st2, f2, q2⟩ := h2
  subst e
  refine comp_run (RR := fun acc C => compPost (model X.prog X.w) X.A X.xe (some (assign (.Name y py) X.env)) (fun _ s' => SP X pins DD .next s') acc C) (Q := fun v H' => gName i v σ H' DD.nx) D hc gk hg ht he I2 T st2 f2 q2 fun p C H1 s1 m1 J1 n1 f1 hC q1 => ?_
  have hCL : s2.heap.objs.size ≤ C := hC
  have ff := I2.fpOk hCL (H' := H1) f1
  show wpAny _ X.A (assign (.Name y py) X.env (.ref p)) _ _ _
  refine wpAny_assign_Name (store_ok2 (v := .ref p) J1 hN hi' (.inl hx) rfl (fun s3 I3 ⟨a, sb, ha⟩ => ?_) (.inr hx))
  have haC : C ≠ a := by
    rcases ha with rfl | ha
    · exact ff.2.1
    · exact fun z => ff.2.2.2.2.1 y a ha z.symm
  refine ⟨m1, n1.sameBut sb haC, fun h' hs' => ⟨_, H1, ?_, q1⟩⟩
  exact I3.turned (t' := s3.toks) (fun b o hb e => hs'.extBut b o hb e) f1 ff.2.1 ff.2.2.2.1 ff.2.2.2.2.1 ff.2.2.2.2.2
theorem wps_setc {i : Nat} (hN : X.N.Nodup) (hi' : X.N[i]? = some y) (hx : X.env.scope.names.lookup y = some .local) (D : CompOk X scope cl NB n capN) (hc : X.calm = true) (gk : GKeeps n g) (hi : WI X tg iter wi)
    (hg : ∀ C fp s3 H3, WG (cxC X scope cl NB C fp s3 H3) tg g) (ht : ∀ C fp s3 H3, WTs (cxC X scope cl NB C fp s3 H3) ifs tt) (he : ∀ C fp s3 H3, WE (cxC X scope cl NB C fp s3 H3) elt te)
    (hs : ∀ x, foldedSetIterable iter X.env x = pure x := by intro _; rfl) (hsw : swapsWith (.ListComp elt [⟨tg, iter, ifs, 0⟩] scope pos) (some (.Name y py)) spos.line X.env = pure true := by rfl) :
    WS X (.Assign [.Name y py] (.ListComp elt [⟨tg, iter, ifs, 0⟩] scope pos) spos) (tAsg (tComp wi n capN g tt te) (gName i)) :=
  ⟨ps_setc hN hi' hx D hc gk hi.r (fun C fp s3 H3 => (hg C fp s3 H3).r) (fun C fp s3 H3 => (ht C fp s3 H3).r) (fun C fp s3 H3 => (he C fp s3 H3).r) hs hsw⟩
end
end L2

namespace L2
open PySem PySem.Spec PyProof.Rows PySem.SeqAt PySem.SeqAt
/-- != of two tuples or two lists -/
def rNeD (K : PySem.W.Frag) : R2 := fun x y H Q => ∃ d e, ((∃ ds es, d = .tup ds ∧ e = .tup es) ∨ (∃ ds es, d = .lst ds ∧ e = .lst es)) ∧ DatAt K H x d ∧ DatAt K H y e ∧ depD d ≤ 50 ∧ Q (.bl (!eqD d e)) H
theorem op_neD {X : Cx} (hu : X.A.units + 60 < cLine) : OpR X (compareOp .NotEq) (rNeD X.K) := by
  intro pins s σ H x y u v Q I rx ry h
  obtain ⟨d, e, k, hx, hy, hd, q⟩ := h
  have items : ∀ {vs ws : List V} {ds es : List D} {us vs' : List Value}, depDs ds ≤ 50 → DatsAt X.K H vs ds → DatsAt X.K H ws es → Vals vs us → Vals ws vs' → ∀ j (h1 : j < us.toArray.size) (h2 : j < vs'.toArray.size), EqAt X.A.in1 s us.toArray[j] vs'.toArray[j] (eqD (ds.getD j .non) (es.getD j .non)) := by
    intro vs ws ds es us vs' hdd r1 r2 q1 q2 j h1 h2
    have l1 := r1.length
    have l2 := r2.length
    have l3 := q1.length
    have l4 := q2.length
    simp only [List.size_toArray] at h1 h2
    have e1 : ds[j]? = some (ds.getD j .non) := by rw [List.getElem?_eq_getElem (by omega)]; simp [List.getD, show j < ds.length by omega]
    have e2 : es[j]? = some (es.getD j .non) := by rw [List.getElem?_eq_getElem (by omega)]; simp [List.getD, show j < es.length by omega]
    obtain ⟨x1, g1, d1⟩ := r1.get e1
    obtain ⟨x2, g2, d2⟩ := r2.get e2
    obtain ⟨u1, f1, rr1⟩ := q1.get g1
    obtain ⟨u2, f2, rr2⟩ := q2.get g2
    have z1 : us.toArray[j] = u1 := by
      have : us[j]? = some us[j] := List.getElem?_eq_getElem h1
      rw [f1] at this
      simpa using (Option.some.inj this).symm
    have z2 : vs'.toArray[j] = u2 := by
      have : vs'[j]? = some vs'[j] := List.getElem?_eq_getElem h2
      rw [f2] at this
      simpa using (Option.some.inj this).symm
    rw [z1, z2]
    exact eqAt_dat I 50 X.A.in1 (Nat.le_trans (depDs_get e1) hdd) (by show X.A.units + 1 + 50 < cLine; omega) d1 d2 rr1 rr2
  have hu' : X.A.units < cLine := by omega
  rcases k with ⟨ds, es, rfl, rfl⟩ | ⟨ds, es, rfl, rfl⟩
  · cases hx with
    | @tup a vs _ h1 r1 =>
      cases hy with
      | @tup b ws _ h2 r2 =>
        cases rx
        cases ry
        obtain ⟨us, q1, p1, z1⟩ := I.tuple h1
        obtain ⟨vs', q2, p2, z2⟩ := I.tuple h2
        have e : eqD (.tup ds) (.tup es) = ((List.range (min us.toArray.size vs'.toArray.size)).all (fun j => eqD (ds.getD j .non) (es.getD j .non)) && us.toArray.size == vs'.toArray.size) := by
          rw [eqD, eqDs_range, List.size_toArray, List.size_toArray, ← q1.length, ← q2.length, r1.length, r2.length]
        rw [e] at q
        exact RcNeAt.tuples p1 p2 hu' (items (by simp [depD] at hd; omega) r1 r2 q1 q2) X.prog X.w _ _ ⟨.bl _, H, I, rfl, q⟩
  · cases hx with
    | @lst a vs _ h1 r1 =>
      cases hy with
      | @lst b ws _ h2 r2 =>
        cases rx
        cases ry
        obtain ⟨us, q1, p1, z1⟩ := I.list h1
        obtain ⟨vs', q2, p2, z2⟩ := I.list h2
        by_cases hl : us.toArray.size = vs'.toArray.size
        · have hl' : ds.length = es.length := by
            simp only [List.size_toArray] at hl
            rw [← r1.length, ← r2.length, q1.length, q2.length, hl]
          have e : eqD (.lst ds) (.lst es) = ((List.range us.toArray.size).all (fun j => eqD (ds.getD j .non) (es.getD j .non))) := by
            rw [eqD, eqDs_range, List.size_toArray, ← q1.length, r1.length, hl']
            simp
          rw [e] at q
          exact RcNeAt.lists p1.isList p2.isList hl hu' (items (by simp [depD] at hd; omega) r1 r2 q1 q2) X.prog X.w _ _ ⟨.bl _, H, I, rfl, q⟩
        · have e : eqD (.lst ds) (.lst es) = false := by
            rw [eqD, eqDs_range]
            have : ¬ ds.length = es.length := by
              simp only [List.size_toArray] at hl
              rw [← r1.length, ← r2.length, q1.length, q2.length]
              exact hl
            simp [this]
          rw [e] at q
          exact RcNeAt.lists_lengths p1.isList p2.isList (by simpa using hl) hu' X.prog X.w _ _ ⟨.bl _, H, I, rfl, q⟩

end L2

/-! ### any, zip, sorted of a dict, in, + of lists -/
namespace L2
open PySem PySem.Spec PyProof.Rows
section
variable {X : Cx}
/-- some untracked records of ours have turned -/
theorem Inv.turnedL {t' : Nat} {ch : List Addr} {pins : List (Addr × Obj)} {σ : St} {H : Hp} {s : Shared} {h' : Heap} (I : Inv X pins σ H s) (k : ∀ b o, b ∉ ch → s.heap.get? b = some o → h'.get? b = some o) (hf : ∀ b ∈ ch, FpOk X pins H b) : Inv X pins σ H { s with heap := h', toks := t' } := by
  have nit : ∀ b u, H b = some u → b ∉ ch := fun b u e z => by rw [(hf b z).1] at e; cases e
  refine I.step (g' := s.gens) (d' := s.drawn) (ch := ch) (fun b hb => ?_) (fun b o _ _ hc e _ => k b o hc e) (fun b o _ _ hc e _ => ⟨o.slots, k b o hc e⟩) (fun _ _ _ _ n => n)
    (fun b o hc e => ⟨o, k b o hc e⟩) (fun _ _ e => e) (fun _ _ _ e => e) (fun b ps e => ⟨#[], by rw [e]; simp⟩) (fun m hm => ?_) (fun b u e => ?_) I.bare
  · obtain ⟨_, f1, _, f3, f4, f5⟩ := hf b hb
    exact ⟨f3, f1, f4, f5⟩
  · obtain ⟨o, es, ep, ho, r⟩ := hm
    exact ⟨o, es, ep, k _ o (fun z => (hf _ z).2.1 rfl) ho, r⟩
  · refine (I.hok b u e).stay (fun c v hc q => k c v ?_ q) (fun _ q => q) fun _ _ q => q
    rcases hc with z | z
    · rw [z]; exact nit b u e
    · exact nit c _ z
/-- .. and a new object was laid -/
theorem Inv.turnedN {t' : Nat} {ch : List Addr} {a : Addr} {o : HO} {pins : List (Addr × Obj)} {σ : St} {H : Hp} {s : Shared} {h' : Heap} (I : Inv X pins σ H s) (k : ∀ b o, b ∉ ch → s.heap.get? b = some o → h'.get? b = some o) (hf : ∀ b ∈ ch, FpOk X pins H b) (hp : s.heap.objs.size ≤ a) (new : ObjOk X.prog X.w (upd H a o) h' a o) :
    Inv X pins σ (upd H a o) { s with heap := h', toks := t' } := by
  have hn : H a = none := I.hok.fresh hp
  have nit : ∀ b u, H b = some u → b ∉ ch := fun b u e z => by rw [(hf b z).1] at e; cases e
  refine I.step (g' := s.gens) (d' := s.drawn) (ch := ch) (fun b hb => ?_) (fun b o _ _ hc e _ => k b o hc e) (fun b o _ _ hc e _ => ⟨o.slots, k b o hc e⟩) (fun b u _ q n => by rw [upd_ne (Nat.ne_of_lt (Nat.lt_of_lt_of_le (Heap.lt_size q) hp))]; exact n)
    (fun b o hc e => ⟨o, k b o hc e⟩) (fun b xs q => by rw [upd_ne (ne_of_none q hn)]; exact q) (fun b u xs q => by rw [upd_ne (ne_of_none q hn)]; exact q) (fun b ps e => ⟨#[], by rw [upd_ne (ne_of_none e hn), e]; simp⟩) (fun m hm => ?_) (fun b u e => ?_) I.bare
  · obtain ⟨_, f1, _, f3, f4, f5⟩ := hf b hb
    exact ⟨f3, f1, f4, f5⟩
  · obtain ⟨o, es, ep, ho, r⟩ := hm
    exact ⟨o, es, ep, k _ o (fun z => (hf _ z).2.1 rfl) ho, r⟩
  · by_cases hb : b = a
    · subst hb; rw [upd_same] at e; cases e; exact new
    · rw [upd_ne hb] at e
      refine (I.hok b u e).stay (fun c v hc q => k c v ?_ q) (fun c q => by rw [upd_ne (ne_of_none q hn)]; exact q) fun c xs q => by rw [upd_ne (ne_of_none q hn)]; exact q
      rcases hc with z | z
      · rw [z]; exact nit b u e
      · exact nit c _ z
end
end L2

/-! ### lists of lists: sorted, not in -/
namespace L2
open PySem PySem.Spec PyProof.Rows PySem.SeqAt
section
open PySem.AutoSeq1 (wpAny_loadPart')
open PySem.MeetsSeq PySem.MeetsSeq2 PySem.MeetsSeq3
end
section
variable {prog : Program} {w : World} {A : Around} {E : Value → Shared → Prop} {s : Shared}
end
/-! ### a list that is in order already -/
section
variable {prog : Program} {w : World} {A : Around} {E : Value → Shared → Prop} {s : Shared}
end
section
variable {X : Cx}
end
end L2

namespace L2
open PySem PySem.Spec PyProof.Rows

/-! ### two except clauses -/
/-- C stands not under C', which may be caught -/
structure NSub (K : PySem.W.Frag) (C C' : Addr) : Prop where
  k : PySem.W.kitCls K (.ref C) (.ref C') = some false
  b : PySem.W.subIn K (.ref C') (.type "BaseException") = some true
section
variable {X : Cx} {body suite suite2 : List Stmt} {b₀ b1 : Stmt} {y y2 : Str} {np hpos np2 hpos2 pos : Pos} {C' C2 : Addr} {tb : (Value → St → Hp → Prop) → TS} {ts ts2 : TS}
end

/-! ### zip of a list or a tuple with a list or a tuple -/
def SrcA (b : Bool) (h : Heap) (l : Addr) (xs : Array Value) : Prop := match b with
  | true => IsTup h l xs
  | false => h.IsList l xs
def ItrA (b : Bool) (h : Heap) (j l : Addr) (i : Nat) : Prop := match b with
  | true => IsTupIter h j l i
  | false => h.IsListIter j l i
def itO (b : Bool) (l : Addr) : Obj := { cls := .type (match b with | true => "tuple_iterator" | false => "list_iterator"), data := .fields #[.ref l, .int 0 0] }
theorem ItrA.obj {b : Bool} {h : Heap} {j l : Addr} {i : Nat} (x : ItrA b h j l i) : ∃ o, h.get? j = some o ∧ o.data = .fields #[.ref l, .int i 0] := by
  cases b with
  | true => obtain ⟨o, e, _, d⟩ := x; exact ⟨o, e, d⟩
  | false => obtain ⟨o, e, _, d⟩ := x; exact ⟨o, e, d⟩
theorem ItrA.at' {b : Bool} {h h' : Heap} {j l : Addr} {i : Nat} (x : ItrA b h j l i) (k : ∀ o, h.get? j = some o → h'.get? j = some o) : ItrA b h' j l i := by
  cases b with
  | true => obtain ⟨o, e, d⟩ := x; exact ⟨o, k o e, d⟩
  | false => obtain ⟨o, e, d⟩ := x; exact ⟨o, k o e, d⟩
theorem ItrA.ext {b : Bool} {h h' : Heap} {j l c : Addr} {i : Nat} (x : ItrA b h j l i) (e : Heap.ExtBut c h h') (n : j ≠ c) : ItrA b h' j l i := x.at' fun o q => e _ _ n q
theorem ItrA.new {b : Bool} {h : Heap} {l : Addr} : ItrA b (h.push (itO b l)) h.objs.size l 0 := by
  cases b with
  | true => exact ⟨_, Heap.get?_push_size _ rfl, rfl, rfl⟩
  | false => exact ⟨_, Heap.get?_push_size _ rfl, rfl, rfl⟩
section
variable {prog : Program} {w : World} {A : Around} {E : Value → Shared → Prop} {s : Shared}
theorem tupNext {j t : Addr} {i : Nat} {xs : Array Value} {x : Value} {Q : Value → Shared → Prop} (a1 : IsTupIter s.heap j t i) (a2 : IsTup s.heap t xs) (e : xs[i]? = some x) (k : ∀ h', IsTupIter h' j t (i + 1) → Heap.SameBut j s.heap h' → Q x { s with heap := h' }) :
    wpAny (model prog w) A (Builtin.SmallTypes.nextOf (.ref j)) Q E s := by
  obtain ⟨o, b1, b2, b3⟩ := id a1
  obtain ⟨u, c1, _, m, c2⟩ := a2
  unfold Builtin.SmallTypes.nextOf
  refine wpAny_bind (wpAny_callSpecial?_slot (name := Str.ofString "__next__") a1.typeIs slot_tupleiter_next (wpAny_call_entry slot_tupleiter_next a1.typeIs entry_tupleiter_next ?_ (args_tupleiter_next _)))
  show wpAny _ _ (field (.ref j) 0 >>= _) _ _ s
  refine wpAny_bind (wpAny_field b1 b3 (x := .ref t) rfl ?_)
  show wpAny _ _ (if (Value.ref t == Value.none) = true then _ else _) _ _ s
  rw [if_neg (fun z : (Value.ref t == Value.none) = true => Bool.false_ne_true z)]
  show wpAny _ _ (field (.ref j) 1 >>= _) _ _ s
  refine wpAny_bind (wpAny_field b1 b3 (x := .int i 0) rfl ?_)
  show wpAny _ _ (seqItems? (.ref t) >>= _) _ _ s
  refine wpAny_bind (wpAny_seqItems c1 c2 ?_)
  simp only [Int.toNat_natCast, e]
  refine wpAny_bind (wpAny_setField b1 b3 (by simp) (wpAny_pure ⟨x, rfl, wpAny_pure (k _ ?_ (Heap.SameBut.update ..))⟩))
  exact ⟨_, Heap.get?_update_self _ b1 (Obj.isFreed_of_fields (Obj.data_mapFields b3 _)), (Obj.cls_mapFields ..).trans b2, by rw [Obj.data_mapFields b3]; simp [rawInt]⟩
theorem tupNext_end {j t : Addr} {i : Nat} {xs : Array Value} {Q : Value → Shared → Prop} (hh : A.handled = none) (a1 : IsTupIter s.heap j t i) (a2 : IsTup s.heap t xs) (e : xs[i]? = none)
    (k : ∀ h' e, Heap.ExtBut j s.heap h' → (∃ o, h'.get? e = some o ∧ o.cls = .type "StopIteration") → E (.ref e) { s with heap := h' }) : wpAny (model prog w) A (Builtin.SmallTypes.nextOf (.ref j)) Q E s := by
  obtain ⟨o, b1, b2, b3⟩ := id a1
  obtain ⟨u, c1, _, m, c2⟩ := a2
  unfold Builtin.SmallTypes.nextOf
  refine wpAny_bind (wpAny_callSpecial?_slot (name := Str.ofString "__next__") a1.typeIs slot_tupleiter_next (wpAny_call_entry slot_tupleiter_next a1.typeIs entry_tupleiter_next ?_ (args_tupleiter_next _)))
  show wpAny _ _ (field (.ref j) 0 >>= _) _ _ s
  refine wpAny_bind (wpAny_field b1 b3 (x := .ref t) rfl ?_)
  show wpAny _ _ (if (Value.ref t == Value.none) = true then _ else _) _ _ s
  rw [if_neg (fun z : (Value.ref t == Value.none) = true => Bool.false_ne_true z)]
  show wpAny _ _ (field (.ref j) 1 >>= _) _ _ s
  refine wpAny_bind (wpAny_field b1 b3 (x := .int i 0) rfl ?_)
  show wpAny _ _ (seqItems? (.ref t) >>= _) _ _ s
  refine wpAny_bind (wpAny_seqItems c1 c2 ?_)
  simp only [Int.toNat_natCast, e]
  refine wpAny_bind (wpAny_rule (wpAny_bind (wpAny_setField b1 b3 (by simp) ?_)))
  show wpAny _ _ (newExc (.type "StopIteration") [] >>= _) _ _ _
  refine wpAny_bind ?_; simp only [newExc, newTuple]
  refine wpAny_bind (wpAny_newObj_type ?_ (by size_fits)); refine wpAny_bind (m := firstArgMember _ _) (wpAny_of_eq (a := Value.none) (by first | rfl | (simp only [firstArgMember]; rfl)) ?_)
  refine wpAny_newObj_type ?_ (by size_fits); simp only [raiseNew]; refine wpAny_bind (wpAny_handled ?_)
  first | rw [show A.in1.handled = none from hh] | rw [hh]
  refine wpAny_bind (wpAny_pure (wpAny_throw ?_)); exact k _ _ (((Heap.SameBut.update ..).extBut.push _).push _) ⟨_, Heap.get?_push_size _ rfl, rfl⟩
theorem nextA {b : Bool} {j l : Addr} {i : Nat} {xs : Array Value} {x : Value} {Q : Value → Shared → Prop} (a1 : ItrA b s.heap j l i) (a2 : SrcA b s.heap l xs) (e : xs[i]? = some x) (k : ∀ h', ItrA b h' j l (i + 1) → Heap.SameBut j s.heap h' → Q x { s with heap := h' }) :
    wpAny (model prog w) A (Builtin.SmallTypes.nextOf (.ref j)) Q E s := by
  cases b with
  | true => exact tupNext a1 a2 e k
  | false => exact wpAny_nextOf_list_item a1 a2 e k
theorem nextA_end {b : Bool} {j l : Addr} {i : Nat} {xs : Array Value} {Q : Value → Shared → Prop} (hh : A.handled = none) (a1 : ItrA b s.heap j l i) (a2 : SrcA b s.heap l xs) (e : xs[i]? = none)
    (k : ∀ h' e, Heap.ExtBut j s.heap h' → (∃ o, h'.get? e = some o ∧ o.cls = .type "StopIteration") → E (.ref e) { s with heap := h' }) : wpAny (model prog w) A (Builtin.SmallTypes.nextOf (.ref j)) Q E s := by
  cases b with
  | true => exact tupNext_end hh a1 a2 e k
  | false => exact wpAny_nextOf_list_end hh a1 a2 e k
theorem iterA {b : Bool} {l : Addr} {xs : Array Value} {Q : Value → Shared → Prop} (a2 : SrcA b s.heap l xs) (k : Q (.ref s.heap.objs.size) { s with heap := s.heap.push (itO b l) }) : wpAny (model prog w) A (pyIter (.ref l)) Q E s := by
  cases b with
  | true => exact iter_tuple a2 k
  | false => exact wpAny_pyIter_list a2 k
end
abbrev zA1 (b : Bool) (h : Heap) (l : Addr) : Heap := h.push (itO b l)
section
variable {prog : Program} {w : World} {A : Around} {E : Value → Shared → Prop} {s : Shared}
end
def SqA (K : PySem.W.Frag) (b : Bool) (H : Hp) (a : Addr) (xs : List V) : Prop := match b with
  | true => SqT K H a xs
  | false => SqL K H a xs
section
variable {X : Cx} {pins : List (Addr × Obj)} {σ : St} {H : Hp} {s : Shared} {b : Bool} {a : Addr} {xs ys : List V}
theorem Inv.srcA (I : Inv X pins σ H s) (h : SqA X.K b H a xs) : ∃ its : List Value, Vals xs its ∧ SrcA b s.heap a its.toArray := by
  cases b with
  | true => obtain ⟨its, r, p, _⟩ := I.tuple h; exact ⟨its, r, p⟩
  | false => obtain ⟨its, r, p, _⟩ := I.list h; exact ⟨its, r, p.isList⟩
theorem Inv.srcA_inj (I : Inv X pins σ H s) (h : SqA X.K b H a xs) (h' : SqA X.K b H a ys) : xs = ys := by
  cases b with
  | true => exact I.tuple_inj h h'
  | false => exact I.list_inj h h'
end
end L2
namespace L2
open PySem PySem.Spec PyProof.Rows
section
variable {K : PySem.W.Frag} {pb qb : Bool} {a b p : Addr} {xs zs : List V} {n : Nat} {capN : List Nat} {g : TG} {tt : TT} {te : TE} {σ : St} {H1 : Hp} {QH : Hp → Prop}
end
end L2

namespace L2
open PySem PySem.Spec PyProof.Rows Builtin Builtin.ObjectAttr Builtin.Getset_descriptor
/-- what isinstance asks of an own class of exceptions -/
structure ExcK (K : PySem.W.Frag) (C : Addr) : Prop where
  ga : PySem.W.findIn K (.ref C) "__getattribute__" = some (some (.builtin "BaseException.__getattribute__"))
  gh : PySem.W.findIn K (.ref C) "__getattr__" = some none
  cl : PySem.W.findIn K (.ref C) "__class__" = some (some (.builtin "object.__class__"))
  ge : PySem.W.specialIn K (.builtin "object.__class__") "__get__" = some (some (.builtin "getset_descriptor.__get__"))
  tk : PySem.W.takesIn K (.builtin "object.__class__") = some true
  mo : PySem.W.mroIn K C (.type "object") = some true
  mb : PySem.W.mroIn K C (.type "BaseException") = some true
section
variable {prog : Program} {w : World} {A : Around} {E : Value → Shared → Prop} {s : Shared} {K : PySem.W.Frag} {a C : Addr} {o : Obj}
theorem exc_type {M : Model} {h : Heap} (ho : h.get? a = some o) (hc : o.cls = .ref C) : PySem.W.Looks M h (typeOf (.ref a)) (.ref C) := hc ▸ (PySem.W.Looks.ld ho).andThen .now
theorem exc_classGet {R : Result → Shared → Prop} {tp : Value} (X : K.In s.heap) (ho : s.heap.get? a = some o) (hc : o.cls = .ref C) (Z : ExcK K C) (h : R (.ok (.ret (.ref C))) s) :
    codeAny (model prog w) A (.call (.builtin "getset_descriptor.__get__") ⟨[.builtin "object.__class__", .ref a, tp], []⟩) R s := by
  obtain ⟨hh, g, dr, t, os⟩ := s
  have L0 := exc_type (M := model prog w) ho hc
  have L1 := PySem.W.looks_mroIn (M := model prog w) X Z.mo
  refine codeAny_call_builtin PySem.W.KF.slot_gs.plain PySem.W.KF.entry_gs (PySem.W.KF.slot_gs.check _ _ _ _ _ _ _ _ PySem.W.KF.type_class (PySem.W.KF.args_gs _ _ _) ?_)
  unfold Builtin.«getset_descriptor.__get__» descrGet
  rw [PySem.W.dga_obj]; refine wpAny_bind (wpAny_pure ?_)
  unfold descrGetter descrCheckInstance descrNameAndClass isInstance
  simp only [PySem.W.KF.owner_class]; repeat lk
  refine ⟨Code.quiet_builtin _ (by decide +kernel), codeAny_builtin PySem.W.KF.entry_class ?_⟩
  unfold Builtin.«object.__class__» shownTypeOf; repeat lk
  exact h
theorem exc_find {M : Model} {h : Heap} (X : K.In h) (Z : ExcK K C) : PySem.W.Looks M h (find (.ref a) (.ref C) "__class__") (.bind (.builtin "getset_descriptor.__get__") (.builtin "object.__class__")) := by
  have L1 := PySem.W.looks_findIn (M := M) X Z.cl
  have L2 : PySem.W.Looks M h (getOf (some (.builtin "object.__class__"))) (some (.builtin "getset_descriptor.__get__")) := PySem.W.looks_specialIn X Z.ge
  have L3 := PySem.W.looks_takesIn (M := M) X Z.tk
  unfold find
  refine L1.andThen (L2.andThen ?_)
  have L4 : PySem.W.Looks M h (dataDescriptor? (some (.builtin "object.__class__")) (some (.builtin "getset_descriptor.__get__"))) (some (.builtin "getset_descriptor.__get__", .builtin "object.__class__")) := by
    unfold dataDescriptor?
    exact L3.andThen .now
  exact L4.andThen (PySem.W.Looks.tag .now)
theorem exc_check {M : Model} {nameV : Value} {Q : Unit → Shared → Prop} (X : K.In s.heap) (ho : s.heap.get? a = some o) (hc : o.cls = .ref C) (Z : ExcK K C) (q : Q () s) :
    wpAny M A (checkBuiltinCall "BaseException.__getattribute__" ⟨[.ref a, nameV], []⟩) Q E s := by
  obtain ⟨hh, g, dr, t, os⟩ := s
  have hk : builtinKind "BaseException.__getattribute__" = some .slot := by decide +kernel
  have hsp : splitId "BaseException.__getattribute__" = some ("BaseException", "__getattribute__") := by decide +kernel
  have L0 := exc_type (M := M) ho hc
  have L1 := PySem.W.looks_mroIn (M := M) X Z.mb
  have ha := F.args_bexc_ga (.ref a) nameV
  simp only [checkBuiltinCall, hk, hsp]
  refine wpAny_bind ?_
  unfold isInstance
  refine wpAny_bind (L0.at (L1.at ?_))
  repeat (first | assumption | wp_step)
theorem exc_cls {Q : Option Value → Shared → Prop} (X : K.In s.heap) (ho : s.heap.get? a = some o) (hc : o.cls = .ref C) (Z : ExcK K C) (q : Q (some (.ref C)) { s with toks := s.toks + 1 }) :
    wpAny (model prog w) A (getAttr? (.ref a) "__class__") Q E s := by
  obtain ⟨hh, g, dr, t, os⟩ := s
  have L0 := exc_type (M := model prog w) ho hc
  have L1 := PySem.W.looks_findIn (M := model prog w) X Z.ga
  have L2 := PySem.W.looks_findIn (M := model prog w) X Z.gh
  have L3 := exc_find (M := model prog w) (a := a) X Z
  have n1 : (Value.builtin "BaseException.__getattribute__" == Value.builtin "object.__getattribute__") = false := by decide +kernel
  unfold getAttr? getAttrBy? getAttrBy
  refine wpAny_bind (wpAny_mkText (wpAny_bind (wpAny_attempt (wpAny_holding (wpAny_bind (L0.at (wpAny_bind (L1.at ?_))))))))
  show wpAny _ _ (if (onTheHeap (Value.ref C) && Value.builtin "BaseException.__getattribute__" == Value.builtin "object.__getattribute__") = true then _ else _) _ _ _
  rw [n1, Bool.and_false, if_neg Bool.false_ne_true]
  unfold getAttrByItsOwn hookBefore
  refine wpAny_bind (L2.at ?_)
  refine wpAny_bind (wpAny_attempt (wpAny_holding ?_))
  show wpAny _ _ (boundAndCalled _ _ _) _ _ _
  unfold boundAndCalled
  refine wpAny_bind (wpAny_of_eq (PySem.F.excAttr_ValueError.ga.bind (.ref a)) ?_)
  refine wpAny_call (codeAny_call_builtin PySem.F.excAttr_ValueError.ga.plain F.entry_bexc_ga (exc_check (o := o) X ho hc Z ?_))
  unfold «object.__getattribute__»
  refine wpAny_bind (wpAny_pure ?_)
  refine wpAny_bind (wpAny_pure ?_)
  refine wpAny_bind (L0.at ?_)
  refine wpAny_bind (L3.at ?_)
  show wpAny _ _ (bindTo (.builtin "getset_descriptor.__get__") (.builtin "object.__class__") (.ref a) (.ref C)) _ _ _
  show wpAny _ _ (holding [.builtin "object.__class__"] (call (.builtin "getset_descriptor.__get__") [.builtin "object.__class__", .ref a, .ref C]) >>= ret) _ _ _
  refine wpAny_bind (wpAny_holding (wpAny_call (exc_classGet (o := o) X ho hc Z ?_)))
  refine wpAny_pure ?_
  show wpAny _ _ (handedOut (.ref C)) _ _ _
  exact wpAny_pure (wpAny_pure q)
end
section
variable {K : PySem.W.Frag} {a C : Addr}
theorem kitx_exc {cd : ClassData} (Z : ExcK K C) (hc : PySem.W.clsIn K C = some cd) : PySem.W.KitX K (.ref a) (.ref C) (fun h => ∃ o, h.get? a = some o ∧ o.cls = .ref C) where
  ty := fun _ _ _ ⟨_, ho, hc⟩ => exc_type ho hc
  it := fun M h X _ => by
    unfold PySem.W.clsIn at hc
    split at hc
    · rename_i c' d' cd' sl' ho
      intro A' Q' E' s' k q
      unfold isType loadHead
      exact wpAny_bind (wpAny_loadPart (k _ _ (X _ _ ho)) (wpAny_pure q))
    · cases hc
  ne := fun h tp dd its n sl X htp => by
    refine Bool.eq_false_iff.mpr fun q => ?_
    have e : C = tp := Value.ref.inj (beq_iff_eq.mp q)
    subst e
    unfold PySem.W.clsIn at hc
    split at hc
    · rename_i c' d' cd' sl' ho
      have z := (X _ _ ho).symm.trans htp
      cases z
    · cases hc
  ca := fun X ⟨_, ho, hc⟩ k => exc_cls X ho hc Z k
end
section
variable {X : Cx} {K : PySem.W.Frag}
/-- isinstance(e, C') of a caught exception -/
theorem call_isX (h : X.K = K) : CallR X (.builtin "isinstance") (fun xs H Q => ∃ a C C' cd b, xs = [.ref a, .ref C'] ∧ H a = some (excO a C) ∧ ExcK K C ∧ PySem.W.clsIn K C = some cd ∧ PySem.W.kitOne K (.ref C) (.ref C') = some b ∧ Q (.bl b) H) := by
  subst h
  intro pins s σ H xs us Q I r h
  obtain ⟨a, C, C', cd, b, rfl, ha, Z, hcd, e, q⟩ := h
  obtain ⟨u, v, rfl, rx, ry⟩ := Vals.two r
  cases rx
  cases ry
  have ho : ∃ o, s.heap.get? a = some o ∧ o.cls = .ref C := (show ObjOk X.prog X.w H s.heap a (.ext fun h => ∃ o, h.get? a = some o ∧ o.cls = .ref C) from I.hok a _ ha).1
  exact PySem.W.kia_one (kitx_exc Z hcd) I.kIn ho e (by intro z; cases z) fun tk => ⟨.bl b, H, I.tok tk, rfl, q⟩
/-- isinstance(e, (C1, ..)) -/
theorem call_isXs (h : X.K = K) : CallR X (.builtin "isinstance") (fun xs H Q => ∃ (a C t : Addr) (cs : List Addr) (cd : ClassData) (b : Bool), xs = [.ref a, .ref t] ∧ H a = some (excO a C) ∧ H t = some (.tup (cs.map V.ref)) ∧ ExcK K C ∧ PySem.W.clsIn K C = some cd ∧ PySem.W.kitAny K (.ref C) (cs.map Value.ref) = some b ∧ Q (.bl b) H) := by
  subst h
  intro pins s σ H xs us Q I r h
  obtain ⟨a, C, t, cs, cd, b, rfl, ha, ht, Z, hcd, e, q⟩ := h
  obtain ⟨u, v, rfl, rx, ry⟩ := Vals.two r
  cases rx
  cases ry
  have ho : ∃ o, s.heap.get? a = some o ∧ o.cls = .ref C := (show ObjOk X.prog X.w H s.heap a (.ext fun h => ∃ o, h.get? a = some o ∧ o.cls = .ref C) from I.hok a _ ha).1
  obtain ⟨hz, its, rv, ⟨o, h1, h2, n, h3⟩⟩ := (show ObjOk X.prog X.w H s.heap t (.tup (cs.map V.ref)) from I.hok t _ ht)
  have ei : ∀ (l : List Addr) (js : List Value), Vals (l.map V.ref) js → js = l.map Value.ref := by
    intro l
    induction l with
    | nil => intro js r; cases r; rfl
    | cons x xs ih =>
      intro js r
      cases r with
      | cons r1 r2 => cases r1; rw [ih _ r2]; rfl
  have e1 := ei cs its rv
  subst e1
  obtain ⟨oc, od, oda, osl⟩ := o
  dsimp only at h2 h3
  subst h2 h3
  exact PySem.W.kia_tup (kitx_exc Z hcd) I.kIn ho h1 e (by intro z; cases z) fun tk => ⟨.bl b, H, I.tok tk, rfl, q⟩
end
end L2

namespace L2
open PySem PySem.Spec PyProof.Rows
/-! ### texts -/
section
variable {prog : Program} {w : World} {A : Around} {E : Value → Shared → Prop} {s : Shared} {x y : Str} {t u : Tok} {Q : Value → Shared → Prop}
end
section
variable {X : Cx}
end
/-! ### the signs of a text -/
section
variable {X : Cx} {tg : Expr}
end
section
variable {K : PySem.W.Frag} {a : Str} {p : Addr} {n : Nat} {capN : List Nat} {g : TG} {te : TE} {σ : St} {H1 : Hp} {QH : Hp → Prop}
end
end L2
namespace L2
open PySem PySem.Spec PyProof.Rows
section
variable {X : Cx} {a b : Expr} {ta tb : TE} {pos : Pos}
end
end L2

namespace L2
open PySem PySem.Spec PyProof.Rows
/-! ### enumerate of a list or a tuple; a def held in a name of its own -/
section
variable {prog : Program} {w : World} {A : Around} {E : Value → Shared → Prop} {s : Shared}
theorem enumA_next {b : Bool} {z j l : Addr} {n : Nat} {xs : Array Value} {x old : Value} {Q : Value → Shared → Prop} (pz : IsEnum s.heap z j n old) (p1 : ItrA b s.heap j l n) (q1 : SrcA b s.heap l xs) (e1 : xs[n]? = some x) (nz : z ≠ j)
    (K : ∀ h', IsEnumOut h' z j ((n : Int) + 1) x s.heap.objs.size → ItrA b h' j l (n + 1) → IsPair h' s.heap.objs.size (.int n s.toks) x → h'.objs.size = s.heap.objs.size + 1 →
      (∀ c o, c ≠ z → c ≠ j → s.heap.get? c = some o → h'.get? c = some o) → Q (.ref s.heap.objs.size) { s with heap := h', toks := s.toks + 1 }) :
    wpAny (model prog w) A (Builtin.«enumerate.__next__» ⟨[.ref z], []⟩) (fun fin s' => ∃ v, fin = .done (.ret v) ∧ Q v s') E s := by
  obtain ⟨h0, gg, dd, tt, oo⟩ := s
  show wpAny _ _ (field (.ref z) 2 >>= _) _ _ _
  refine wpAny_bind (wpAny_field pz rfl (x := .ref j) rfl (wpAny_bind (nextA p1 q1 e1 fun g1 t1 s1 => ?_)))
  replace s1 : Heap.SameBut j h0 g1 := s1
  have z1 : IsEnum g1 z j n old := (s1.2 z nz).trans pz
  show wpAny _ _ (field (.ref z) 3 >>= _) _ _ ⟨g1, gg, dd, tt, oo⟩
  refine wpAny_bind (wpAny_field z1 rfl (x := rawInt n) rfl ?_)
  show wpAny _ _ (field (.ref z) 4 >>= _) _ _ ⟨g1, gg, dd, tt, oo⟩
  refine wpAny_bind (wpAny_field z1 rfl (x := .none) rfl ?_)
  show wpAny _ _ (mkInt n >>= _) _ _ ⟨g1, gg, dd, tt, oo⟩
  refine wpAny_bind (wpAny_mkInt ?_)
  show wpAny _ _ (setField (.ref z) 3 (rawInt ((n : Int) + 1)) >>= _) _ _ ⟨g1, gg, dd, tt + 1, oo⟩
  refine wpAny_bind (wpAny_setField_rec z1 (by simp) fun g2 z2 s2 => ?_)
  replace s2 : Heap.SameBut z g1 g2 := s2
  replace z2 : IsEnum g2 z j ((n : Int) + 1) old := z2
  show wpAny _ _ (setField (.ref z) 4 .none >>= _) _ _ ⟨g2, gg, dd, tt + 1, oo⟩
  refine wpAny_bind (wpAny_setField_rec z2 (by simp) fun g3 z3 s3 => ?_)
  replace s3 : Heap.SameBut z g2 g3 := s3
  replace z3 : IsEnum g3 z j ((n : Int) + 1) old := z3
  show wpAny _ _ (newTuple [.int n tt, x] >>= _) _ _ ⟨g3, gg, dd, tt + 1, oo⟩
  refine wpAny_bind (wpAny_newTuple ?_)
  have z4 : IsEnum (g3.push { cls := .type "tuple", data := .seq #[.int n tt, x] }) z j ((n : Int) + 1) old := Heap.get?_push_of_some _ z3
  generalize e4 : g3.push { cls := .type "tuple", data := .seq #[.int n tt, x] } = g4 at z4
  have sz : g3.objs.size = h0.objs.size := by rw [s3.1, s2.1, s1.1]
  have lz : z < h0.objs.size := Heap.lt_size pz
  have t4 : IsPair g4 h0.objs.size (.int n tt) x := by rw [← e4, ← sz]; exact Heap.get?_push_size _ rfl
  have y4 : g4.objs.size = h0.objs.size + 1 := by rw [← e4, Heap.size_push, sz]
  have k4 : ∀ c o, c ≠ z → c ≠ j → h0.get? c = some o → g4.get? c = some o := fun c o c1 c2 e => by
    rw [← e4]; exact Heap.get?_push_of_some _ (s3.extBut _ _ c1 (s2.extBut _ _ c1 (s1.extBut _ _ c2 e)))
  have i4 : ItrA b g4 j l (n + 1) := by rw [← e4]; exact ((t1.ext s2.extBut nz.symm).ext s3.extBut nz.symm).at' fun o e => Heap.get?_push_of_some _ e
  show wpAny _ _ (Builtin.SmallTypes.ownedTupleIsFree (.ref z) >>= _) _ _ ⟨g4, gg, dd, tt + 1, oo⟩
  rw [sz]
  clear e4 z3 s3 z2 s2 z1 s1 t1 sz g3 g2 g1
  refine wpAny_bind ?_; unfold Builtin.SmallTypes.ownedTupleIsFree
  refine wpAny_bind (wpAny_field z4 rfl (x := .none) rfl (wpAny_pure ?_)); simp only [if_true]
  refine wpAny_bind (wpAny_rule (wpAny_bind (wpAny_field z4 rfl (x := old) rfl (wpAny_bind (wpAny_setField_rec z4 (by simp) fun g5 z5 s5 => ?_)))))
  replace s5 : Heap.SameBut z g4 g5 := s5
  replace z5 : IsEnum g5 z j ((n : Int) + 1) x := z5
  show wpAny _ _ (Builtin.SmallTypes.ownedTupleHandOut (.ref z) (.ref h0.objs.size) >>= _) _ _ ⟨g5, gg, dd, tt + 1, oo⟩
  refine wpAny_bind ?_; unfold Builtin.SmallTypes.ownedTupleHandOut
  refine wpAny_bind (wpAny_setField_rec z5 (by simp) fun g6 z6 s6 => ?_)
  replace s6 : Heap.SameBut z g5 g6 := s6
  replace z6 : IsEnumOut g6 z j ((n : Int) + 1) x h0.objs.size := z6
  refine wpAny_setField_rec z6 (by simp) fun g7 z7 s7 => ?_
  replace s7 : Heap.SameBut z g6 g7 := s7
  replace z7 : IsEnumOut g7 z j ((n : Int) + 1) x h0.objs.size := z7
  have up : ∀ c o, c ≠ z → g4.get? c = some o → g7.get? c = some o := fun c o c1 e => s7.extBut _ _ c1 (s6.extBut _ _ c1 (s5.extBut _ _ c1 e))
  refine wpAny_bind (wpAny_letGo (wpAny_pure ⟨_, rfl, K g7 z7 (i4.at' fun o e => up _ o nz.symm e) (up _ _ (Nat.ne_of_gt lz) t4) (by rw [s7.1, s6.1, s5.1, y4]) fun c o c1 c2 e => up c o c1 (k4 c o c1 c2 e)⟩))
theorem pyNext_enumA {b : Bool} {z j l : Addr} {n : Nat} {xs : Array Value} {x old : Value} {Q : Option Value → Shared → Prop} (pz : IsEnum s.heap z j n old) (p1 : ItrA b s.heap j l n) (q1 : SrcA b s.heap l xs) (e1 : xs[n]? = some x) (nz : z ≠ j)
    (K : ∀ h', IsEnumOut h' z j ((n : Int) + 1) x s.heap.objs.size → ItrA b h' j l (n + 1) → IsPair h' s.heap.objs.size (.int n s.toks) x → h'.objs.size = s.heap.objs.size + 1 →
      (∀ c o, c ≠ z → c ≠ j → s.heap.get? c = some o → h'.get? c = some o) → Q (some (.ref s.heap.objs.size)) { s with heap := h', toks := s.toks + 1 }) :
    wpAny (model prog w) A (pyNext (.ref z)) Q E s := by
  have T : s.TypeIs (.ref z) "enumerate" := ⟨_, pz, rfl⟩
  unfold pyNext
  exact wpAny_bind (wpAny_attempt (wpAny_callSpecial?_slot (name := Str.ofString "__next__") T F.slot_enumerate_next (wpAny_call_entry F.slot_enumerate_next T F.entry_enumerate_next
    (enumA_next pz p1 q1 e1 nz fun h' a1 a2 a3 a4 a5 => wpAny_pure (K h' a1 a2 a3 a4 a5)) (F.args_enumerate_next_1 _))))
theorem pyNext_enumA_end {b : Bool} {z j l : Addr} {n : Nat} {xs : Array Value} {old : Value} {Q : Option Value → Shared → Prop} (hh : A.handled = none) (pz : IsEnum s.heap z j n old) (p1 : ItrA b s.heap j l n) (q1 : SrcA b s.heap l xs) (e1 : xs[n]? = none)
    (K : ∀ h', Heap.ExtBut j s.heap h' → Q none { s with heap := h' }) : wpAny (model prog w) A (pyNext (.ref z)) Q E s := by
  have T : s.TypeIs (.ref z) "enumerate" := ⟨_, pz, rfl⟩
  unfold pyNext
  refine wpAny_bind (wpAny_attempt (wpAny_callSpecial?_slot (name := Str.ofString "__next__") T F.slot_enumerate_next (wpAny_call_entry F.slot_enumerate_next T F.entry_enumerate_next ?_ (F.args_enumerate_next_1 _))))
  show wpAny _ _ (field (.ref z) 2 >>= _) _ _ _
  refine wpAny_bind (wpAny_field pz rfl (x := .ref j) rfl (wpAny_bind (nextA_end hh p1 q1 e1 fun h' e s1 he => ?_)))
  obtain ⟨o, a1, a2⟩ := he
  exact wpAny_bind (wpAny_isInstance (T := "StopIteration") (b := true) ⟨o, a1, a2⟩ isSubtype_stop (wpAny_pure (K _ s1)))
end
abbrev eA2 (b : Bool) (h : Heap) (l : Addr) : Heap := (zA1 b h l).push { cls := .type "enumerate", data := .fields #[.none, .bool false, .ref h.objs.size, rawInt 0, .none, .none] }
theorem meets_enumA (b : Bool) (l : Addr) (xs : Array Value) :
    PySem.Meets (Builtin.«enumerate.__new__» ⟨[.type "enumerate", .ref l], []⟩) (fun _ R s => SrcA b s.heap l xs ∧ R (.ok (.ret (.ref (zA1 b s.heap l).objs.size))) { s with heap := eA2 b s.heap l }) :=
  .of_wp fun prog w A R s h => by
    obtain ⟨hp, g, d, tk, os⟩ := s; obtain ⟨q1, h⟩ := h
    have hsub := sub_enumerate
    have L1 : SrcA b (Shared.heap ⟨hp, g, d, tk, os⟩) l xs := q1
    obtain ⟨ol, el⟩ : ∃ o, hp.get? l = some o := by cases b with
      | true => obtain ⟨o, e, _⟩ := q1; exact ⟨o, e⟩
      | false => obtain ⟨o, e, _⟩ := q1; exact ⟨o, e⟩
    wp_walk using AutoSeq1.wpAny_loadPart' el
    refine wpAny_stack_any fun st => wpAny_pure ?_
    split
    · rename_i c _ _ _ _ _
      cases (c == Value.type "enumerate")
      · wp_walk using AutoSeq1.wpAny_loadPart' el, iterA L1
        exact ⟨_, rfl, h⟩
      · wp_walk using AutoSeq1.wpAny_loadPart' el, iterA L1
        exact ⟨_, rfl, h⟩
    · wp_walk using AutoSeq1.wpAny_loadPart' el, iterA L1
      exact ⟨_, rfl, h⟩
section
variable {prog : Program} {w : World} {A : Around} {E : Value → Shared → Prop} {s : Shared}
theorem call_enumA {b : Bool} {l : Addr} {xs : Array Value} {Q : Value → Shared → Prop} (q1 : SrcA b s.heap l xs)
    (k : ∀ h', IsEnum h' (s.heap.objs.size + 1) s.heap.objs.size 0 .none → ItrA b h' s.heap.objs.size l 0 → (∀ c o, s.heap.get? c = some o → h'.get? c = some o) → Q (.ref (s.heap.objs.size + 1)) { s with heap := h' }) :
    wpAny (model prog w) A (call (.type "enumerate") [.ref l]) Q E s := by
  refine callType_new F.called_enumerate (by decide) (F.typeCall_enumerate_1 _) (F.newCall_enumerate_1 _) (fun obj => F.args_object_init_2 obj _) F.entry_enumerate_new (meets_enumA b l xs) ⟨q1, ?_⟩
  have y1 : (zA1 b s.heap l).objs.size = s.heap.objs.size + 1 := Heap.size_push ..
  have g2 : (eA2 b s.heap l).get? (zA1 b s.heap l).objs.size = some _ := Heap.get?_push_size _ rfl
  have i1 : ItrA b (eA2 b s.heap l) s.heap.objs.size l 0 := ItrA.at' ItrA.new fun o e => Heap.get?_push_of_some _ e
  rw [y1] at g2 ⊢
  exact ⟨⟨_, g2, rfl⟩, k _ g2 i1 fun c o e => Heap.get?_push_of_some _ (Heap.get?_push_of_some _ e)⟩
end
/-- a list or a tuple, each with its place -/
def ItE (K : PySem.W.Frag) (p : Bool) (a : Addr) : It :=
  ⟨fun i H => ∃ xs x, SqA K p H a xs ∧ xs[i]? = some x,
   fun i H v H' => ∃ T x, v = .ref T ∧ H T = none ∧ H' = upd H T (.tup [.int i, x]) ∧ (∀ xs, SqA K p H a xs → xs[i]? = some x),
   fun i H => ∃ xs, SqA K p H a xs ∧ xs.length ≤ i⟩
theorem turn_enum {P : Program} {w : World} {K : PySem.W.Frag} {elts : List Expr} {kk : Nat} {tp : Pos} (p : Bool) (a z j : Addr) (nz : z ≠ j) :
    Turn P w K (.Tuple elts kk tp) (ItE K p a) [z, j] z (fun i h => (∃ old, IsEnum h z j i old) ∧ ItrA p h j a i) where
  mem := by simp
  obj := fun i h st c hc => by
    obtain ⟨⟨old, hz⟩, h1⟩ := st
    obtain ⟨o1, e1, d1⟩ := h1.obj
    simp only [List.mem_cons, List.not_mem_nil, or_false] at hc
    rcases hc with rfl | rfl
    · exact ⟨_, hz, fun v q => by cases q⟩
    · exact ⟨o1, e1, fun v q => by rw [d1] at q; cases q⟩
  keep := fun i h h' st k => by
    obtain ⟨⟨old, hz⟩, h1⟩ := st
    exact ⟨⟨old, k _ (by simp) _ hz⟩, h1.at' fun o e => k _ (by simp) o e⟩
  item := by
    intro X hP hw hK hc i pins s σ H E I hf st hg
    subst hP hw hK
    obtain ⟨xs, x, hq, hx⟩ := hg
    obtain ⟨its, rv, p1⟩ := I.srcA hq
    obtain ⟨u, hu, ru⟩ := rv.get hx
    obtain ⟨⟨old, hz⟩, h1⟩ := st
    refine pyNext_enumA hz h1 p1 (x := u) (by simpa using hu) nz fun h' a1 a2 a3 a4 hk => ?_
    refine ⟨_, rfl, wpAny_letOwnedTupleGo_enum a1 fun h2' hz' hs' => ?_⟩
    have hTn : s.heap.objs.size ≠ z := Nat.ne_of_gt (Heap.lt_size hz)
    have k2 : ∀ c o, c ∉ [z, j] → s.heap.get? c = some o → h2'.get? c = some o := fun c o hc e => by
      simp only [List.mem_cons, List.not_mem_nil, or_false, not_or] at hc
      exact hs'.extBut _ _ hc.1 (hk c o hc.1 hc.2 e)
    have hT : IsPair h2' s.heap.objs.size (.int i s.toks) u := hs'.extBut _ _ hTn a3
    have hn : H s.heap.objs.size = none := I.hok.fresh (Nat.le_refl _)
    have I2 : Inv X pins σ (upd H s.heap.objs.size (.tup [.int i, x])) { s with heap := h2', toks := s.toks + 1 } := I.turnedN (t' := s.toks + 1) (ch := [z, j]) k2 hf (Nat.le_refl _)
      ⟨by show 2 ≤ sizeLine; decide, [.int i s.toks, u], .cons ⟨_, rfl⟩ (.cons ru .nil), ⟨_, hT, rfl, 0, rfl⟩⟩
    refine ⟨.ref s.heap.objs.size, _, I2, rfl, ⟨s.heap.objs.size, x, rfl, hn, rfl, fun xs' h' => by rw [I.srcA_inj h' hq]; exact hx⟩, ?_, fun c hc => ?_⟩
    · exact ⟨⟨u, by have e : ((i + 1 : Nat) : Int) = (i : Int) + 1 := by push_cast; rfl
                    rw [e]; exact hz'⟩, a2.ext hs'.extBut nz.symm⟩
    · rw [upd_ne]
      · exact (hf c hc).1
      · simp only [List.mem_cons, List.not_mem_nil, or_false] at hc
        obtain ⟨o1, e1, _⟩ := h1.obj
        rcases hc with rfl | rfl
        · exact Nat.ne_of_lt (Heap.lt_size hz)
        · exact Nat.ne_of_lt (Heap.lt_size e1)
  done := by
    intro X hP hw hK hc i pins s σ H E I hf st hg
    subst hP hw hK
    obtain ⟨xs, hq, hl⟩ := hg
    obtain ⟨its, rv, p1⟩ := I.srcA hq
    obtain ⟨⟨old, hz⟩, h1⟩ := st
    have l1 := rv.length
    refine pyNext_enumA_end (I.ok.hd hc) hz h1 p1 (by simp; omega) fun h' hk => ⟨rfl, ?_⟩
    refine I.turnedL (t' := s.toks) (ch := [z, j]) (fun c o hc e => ?_) hf
    simp only [List.mem_cons, List.not_mem_nil, or_false, not_or] at hc
    exact hk c o hc.2 e
  self := fun _ _ _ _ _ st h => by
    obtain ⟨⟨old, hz⟩, _⟩ := st
    exact wpAny_pyIter_enum hz h
def iEnum (K : PySem.W.Frag) (p : Bool) (ta : TA) : TI := fun σ H R => ta σ H fun vs H1 => ∃ a, vs = [.ref a] ∧ (∃ xs, SqA K p H1 a xs) ∧ R (ItE K p a) H1
theorem pi_enum {X : Cx} {elts : List Expr} {kk : Nat} {tp : Pos} {a : Expr} {ta : TA} {p pos : Pos} (p1 : Bool) (hg : Gl X "enumerate") (hm : X.mg "enumerate" = none) (ha : PA X [a] ta) (hs : starEach [a] X.env = [(false, eval a X.env)]) :
    PI X (.Tuple elts kk tp) (.Call (.Name "enumerate" p) [a] [] pos) (iEnum X.K p1 ta) := by
  intro pins s σ H R I h
  refine Call_ (ld_blt I hg hm PyProof.Rows.boot_enumerate (PyProof.Rows.callWith_type1 (thn (ha pos pins s σ H _ I h) fun us s1 ⟨vs, H1, I1, r1, q1⟩ => ?_) (by rw [hs]; rfl) (by rfl)))
  obtain ⟨a, e, ⟨xs, hq⟩, q⟩ := q1
  subst e
  cases r1 with
  | cons rx r2 =>
    cases r2
    cases rx
    obtain ⟨its, rv, pa⟩ := I1.srcA hq
    refine call_enumA pa fun h' g1 g2 hk => ?_
    refine wpAny_pyIter_enum g1 ?_
    refine ⟨_, _, _, _, H1, rfl, I1.kept (t' := s1.toks) hk, turn_enum p1 a _ _ (Nat.succ_ne_self _), ⟨⟨_, g1⟩, g2⟩, fun c hc => ?_, q⟩
    have hge : s1.heap.objs.size ≤ c := by
      simp only [List.mem_cons, List.not_mem_nil, or_false] at hc
      rcases hc with rfl | rfl
      · exact Nat.le_add_right _ _
      · exact Nat.le_refl _
    exact I1.fpOk hge (I1.hok.fresh hge)
theorem wpi_enum {X : Cx} {elts : List Expr} {kk : Nat} {tp : Pos} {a : Expr} {ta : TA} {p pos : Pos} (p1 : Bool) (hg : Gl X "enumerate") (hm : X.mg "enumerate" = none) (ha : WA X [a] ta) (hs : notStar a = true := by rfl) :
    WI X (.Tuple elts kk tp) (.Call (.Name "enumerate" p) [a] [] pos) (iEnum X.K p1 ta) := ⟨pi_enum p1 hg hm ha.r (by rw [star_cons hs]; rfl)⟩
theorem for_enum {K : PySem.W.Frag} {pb : Bool} {a : Addr} {xs : List V} {g : TG} {tb : TS} {D : Ends} {σ : St} {H : Hp} (Pv : Nat → St → Hp → Prop) (h0 : Pv 0 σ H) (hl : ∀ i σ H, i ≤ xs.length → Pv i σ H → SqA K pb H a xs)
    (hs : ∀ i x T σ H, xs[i]? = some x → H T = none → Pv i σ H → g (.ref T) σ (upd H T (.tup [.int i, x])) fun σ2 H2 => tb { D with nx := Pv (i + 1), ct := Pv (i + 1), bk := D.nx } σ2 H2) (hd : ∀ σ H, Pv xs.length σ H → D.nx σ H) :
    ∃ W : Nat → Nat → St → Hp → Prop, (∃ m, W 0 m σ H) ∧ ∀ i m σ H, W i m σ H →
      ((ItE K pb a).stop i H ∧ D.nx σ H) ∨ ((ItE K pb a).go i H ∧ ∃ N : St → Hp → Prop, (∀ σ' H', N σ' H' → ∃ m', m' < m ∧ W (i + 1) m' σ' H') ∧ ∀ x H', (ItE K pb a).yld i H x H' → g x σ H' fun σ2 H2 => tb { D with nx := N, ct := N, bk := D.nx } σ2 H2) := by
  refine ⟨fun i m σ H => m = xs.length - i ∧ i ≤ xs.length ∧ Pv i σ H, ⟨xs.length, by simp, Nat.zero_le _, h0⟩, ?_⟩
  rintro i m σ H ⟨rfl, hi, p⟩
  have q := hl i σ H hi p
  by_cases hlt : i < xs.length
  · refine .inr ⟨⟨xs, xs[i], q, by simp [hlt]⟩, Pv (i + 1), fun σ' H' p' => ⟨xs.length - (i + 1), by omega, rfl, hlt, p'⟩, fun x H' y => ?_⟩
    obtain ⟨T, u, rfl, hT, rfl, y1⟩ := y
    exact hs i u T σ _ (y1 xs q) hT p
  · have e : i = xs.length := by omega
    subst e
    exact .inl ⟨⟨xs, q, Nat.le_refl _⟩, hd σ H p⟩
section
variable {X : Cx} {e : Expr} {es : List Expr} {t : TA} {x : Str} {p pos : Pos} {k : Nat} {fa : Addr} {fd : FuncData} {ps : List Str} {sp : Sp} {CX : CXT} {E : XK} {i : Nat}
end
end L2

namespace L2
open PySem PySem.Spec PyProof.Rows
/-! ### lists over enumerate -/
section
variable {K : PySem.W.Frag} {pb : Bool} {a p : Addr} {xs : List V} {n : Nat} {capN : List Nat} {g : TG} {tt : TT} {te : TE} {σ : St} {H1 : Hp} {QH : Hp → Prop}
end
end L2

namespace L2
open PySem PySem.Spec PyProof.Rows PySem.SeqAt
/-! ### list.index of data of any depth -/
section
variable {X : Cx}
def rIndexD (K : PySem.W.Frag) : V → List V → Hp → VK → Prop := fun x xs H Q => ∃ (a : Addr) (y : V) (ys : List V) (ds : List D) (d : D) (j : Nat), x = .ref a ∧ xs = [y] ∧ SqL K H a ys ∧ DatsAt K H ys ds ∧ DatAt K H y d ∧ (∀ e ∈ ds, depD e ≤ 50) ∧ ds.length ≤ 1000 ∧ (∃ e, ds[j]? = some e ∧ eqD e d = true) ∧ (∀ (i : Nat) e, i < j → ds[i]? = some e → eqD e d = false) ∧ Q (.int j) H
theorem mt_indexD (hu : X.A.units + 60 < cLine) : MtR X "list.index" (rIndexD X.K) := by
  intro pins s σ H x xs v us Q I rx rv h
  obtain ⟨a, y, ys, ds, d, j, rfl, rfl, hq, hds, hd, hdep, hlen, ⟨ej, hj, hje⟩, hno, q⟩ := h
  cases rx
  obtain ⟨u, rfl, ru⟩ := rv.one
  obtain ⟨its, r, pl, hz⟩ := I.list hq
  obtain ⟨F, hF⟩ : ∃ F : Value → Bool, ∀ u x' d', RelV x' u → DatAt X.K H x' d' → F u = eqD d' d := by
    refine ⟨fun u => @decide _ (Classical.propDecidable (∃ x' d', RelV x' u ∧ DatAt X.K H x' d' ∧ eqD d' d = true)), fun u x' d' h1 h2 => ?_⟩
    rw [Bool.eq_iff_iff, @decide_eq_true_iff]
    constructor
    · rintro ⟨x2, d2, h3, h4, h5⟩
      have ex := h1.inj h3
      subst ex
      rw [I.dat_inj h2 h4]
      exact h5
    · exact fun h => ⟨x', d', h1, h2, h⟩
  have at' : ∀ (k : Nat) (hk : k < its.length), ∃ x' d', RelV x' its[k] ∧ ds[k]? = some d' ∧ DatAt X.K H x' d' := fun k hk => by
    have hk' : k < ys.length := by rw [r.length]; exact hk
    obtain ⟨w2, hw2, rel⟩ := r.get (List.getElem?_eq_getElem hk')
    rw [List.getElem?_eq_getElem hk] at hw2
    cases hw2
    obtain ⟨d', hd', hdat⟩ := hds.get' (List.getElem?_eq_getElem hk')
    exact ⟨_, d', rel, hd', hdat⟩
  have each : ∀ w' ∈ its, SeqAt.EqAt X.A.in1 s w' u (F w') := fun w' hw => by
    obtain ⟨k, hk, e⟩ := List.mem_iff_getElem.mp hw
    obtain ⟨x', d', rel, hd', hdat⟩ := at' k hk
    rw [e] at rel
    rw [hF w' _ d' rel hdat]
    exact eqAt_dat I 50 X.A.in1 (hdep d' (List.mem_of_getElem? hd')) (by first | (show X.A.units + 1 + 50 < cLine; omega) | (show X.A.units + 50 < cLine; omega)) hdat hd rel ru
  have hjl : j < its.length := by
    have := (List.getElem?_eq_some_iff.mp hj).1
    rw [← r.length, hds.length]
    exact this
  obtain ⟨⟨cls, dd, data, sl⟩, ho, hc, n, hdt⟩ := id pl.isList
  simp only at hc hdt
  subst hc hdt
  refine call_meets PySem.F.slot_list_index ⟨_, ho, rfl⟩ PySem.F.entry_list_index (PySem.F.args_list_index_2 _ _)
    (list_indexAt a its.toArray n dd sl u F j (by simpa using hjl) ?_ ?_ ?_) ⟨ho, fun w hw => each w (by simpa using hw), ⟨.int j, H, I.tok _, ⟨_, rfl⟩, q⟩⟩
  · have := hds.length
    have := r.length
    omega
  · obtain ⟨x', d', rel, hd', hdat⟩ := at' j hjl
    rw [hj] at hd'
    cases hd'
    have : its.toArray[j]'(by simpa using hjl) = its[j] := by simp
    rw [this, hF _ _ _ rel hdat]
    exact hje
  · intro m hm hlt
    have hm' : m < its.length := by simpa using hm
    obtain ⟨x', d', rel, hd', hdat⟩ := at' m hm'
    have : its.toArray[m] = its[m] := by simp
    rw [this, hF _ _ _ rel hdat]
    exact hno m d' hlt hd'
theorem mt_indexD_K {K : PySem.W.Frag} (h : X.K = K) (hu : X.A.units + 60 < cLine) : MtR X "list.index" (rIndexD K) := by subst h; exact mt_indexD hu
end
end L2

namespace L2
open PySem PySem.Spec PyProof.Rows PySem.SeqAt
/-! ### the sort of up to six things with keys of their own -/
def permsOf : List Nat → Nat → List (List Nat)
  | _, 0 => [[]]
  | av, f + 1 => av.flatMap fun x => (permsOf (av.erase x) f).map (x :: ·)
theorem mem_permsOf : ∀ {f : Nat} {l av : List Nat}, l.length = f → l.Nodup → (∀ x ∈ l, x ∈ av) → l ∈ permsOf av f
  | 0, [], _, _, _, _ => by simp [permsOf]
  | f + 1, x :: t, av, hl, hn, hm => by
    simp only [permsOf, List.mem_flatMap, List.mem_map]
    rw [List.nodup_cons] at hn
    refine ⟨x, hm x List.mem_cons_self, t, mem_permsOf (by simpa using hl) hn.2 fun y hy => ?_, rfl⟩
    exact (List.mem_erase_of_ne fun e => hn.1 (by rw [← e]; exact hy)).mpr (hm y (List.mem_cons_of_mem _ hy))
def chkT (n : Nat) (l : List Nat) : PySem.W.KasT (Array Nat) → Bool
  | .ret p => (p.toList.map (fun i => l.getD i 0) == List.range n) && p.toList.isPerm (List.range n)
  | .ask i j k => decide (i < n) && decide (j < n) && decide (i ≠ j) && chkT n l (k (decide (l.getD i 0 < l.getD j 0)))
theorem chk2 : (permsOf (List.range 2) 2).all (fun l => chkT 2 l (PySem.W.kas_sort 2)) = true := by decide +kernel
theorem chk3 : (permsOf (List.range 3) 3).all (fun l => chkT 3 l (PySem.W.kas_sort 3)) = true := by decide +kernel
theorem chk4 : (permsOf (List.range 4) 4).all (fun l => chkT 4 l (PySem.W.kas_sort 4)) = true := by decide +kernel
theorem chk5 : (permsOf (List.range 5) 5).all (fun l => chkT 5 l (PySem.W.kas_sort 5)) = true := by decide +kernel
theorem chk6 : (permsOf (List.range 6) 6).all (fun l => chkT 6 l (PySem.W.kas_sort 6)) = true := by decide +kernel
theorem chk_all {n : Nat} (h2 : 2 ≤ n) (h6 : n ≤ 6) {l : List Nat} (hl : l ∈ permsOf (List.range n) n) : chkT n l (PySem.W.kas_sort n) = true := by
  rcases (show n = 2 ∨ n = 3 ∨ n = 4 ∨ n = 5 ∨ n = 6 by omega) with rfl | rfl | rfl | rfl | rfl
  · exact List.all_eq_true.mp chk2 l hl
  · exact List.all_eq_true.mp chk3 l hl
  · exact List.all_eq_true.mp chk4 l hl
  · exact List.all_eq_true.mp chk5 l hl
  · exact List.all_eq_true.mp chk6 l hl
theorem filt_le {p q : Int → Bool} : ∀ {l : List Int}, (∀ x ∈ l, p x = true → q x = true) → (l.filter p).length ≤ (l.filter q).length
  | [], _ => Nat.le_refl _
  | z :: s, h => by
    have := filt_le (l := s) fun x hx => h x (List.mem_cons_of_mem _ hx)
    have hz := h z List.mem_cons_self
    cases e : p z with
    | true => rw [List.filter_cons_of_pos e, List.filter_cons_of_pos (hz e)]; simp; omega
    | false =>
      rw [List.filter_cons_of_neg (by simp [e])]
      exact Nat.le_trans this (List.Sublist.length_le (List.Sublist.filter _ (List.sublist_cons_self _ _)))
theorem filt_lt {p q : Int → Bool} : ∀ {l : List Int}, (∀ x ∈ l, p x = true → q x = true) → (∃ x ∈ l, q x = true ∧ p x = false) → (l.filter p).length < (l.filter q).length
  | [], _, h => by obtain ⟨x, hx, _⟩ := h; cases hx
  | y :: t, h, hx => by
    obtain ⟨x, hx, q1, p1⟩ := hx
    have ht := fun x hx => h x (List.mem_cons_of_mem y hx)
    have hy := h y List.mem_cons_self
    rcases List.mem_cons.mp hx with rfl | hx
    · rw [List.filter_cons_of_pos q1, List.filter_cons_of_neg (by simp [p1])]
      have := filt_le ht
      simp
      omega
    · have := filt_lt ht ⟨x, hx, q1, p1⟩
      cases e : p y with
      | true => rw [List.filter_cons_of_pos e, List.filter_cons_of_pos (hy e)]; simp; omega
      | false =>
        rw [List.filter_cons_of_neg (by simp [e])]
        exact Nat.lt_of_lt_of_le this (List.Sublist.length_le (List.Sublist.filter _ (List.sublist_cons_self _ _)))
def rkI (xs : List Int) (x : Int) : Nat := (xs.filter fun y => decide (y < x)).length
theorem rkI_lt {xs : List Int} {x y : Int} (hx : x ∈ xs) : rkI xs x < rkI xs y ↔ x < y := by
  constructor
  · intro h
    by_cases e : x < y
    · exact e
    · have := filt_le (l := xs) (p := fun z => decide (z < y)) (q := fun z => decide (z < x)) fun z _ hz => by simp only [decide_eq_true_eq] at hz ⊢; omega
      unfold rkI at h
      omega
  · intro h
    exact filt_lt (fun z _ hz => by simp only [decide_eq_true_eq] at hz ⊢; omega) ⟨x, hx, by simpa using h, by simp⟩
theorem rkI_bd {xs : List Int} {x : Int} (hx : x ∈ xs) : rkI xs x < xs.length := by
  have := filt_lt (l := xs) (p := fun z => decide (z < x)) (q := fun _ => true) (fun _ _ _ => rfl) ⟨x, hx, rfl, by simp⟩
  have e : xs.filter (fun _ => true) = xs := by simp
  rw [e] at this
  exact this
theorem rk_perm {xs : List Int} (h : xs.Nodup) : xs.map (rkI xs) ∈ permsOf (List.range xs.length) xs.length := by
  refine mem_permsOf (by simp) ?_ fun r hr => ?_
  · rw [List.nodup_iff_pairwise_ne, List.pairwise_map]
    refine (List.Pairwise.and_mem.mp (List.nodup_iff_pairwise_ne.mp h)).imp ?_
    rintro x y ⟨hx, hy, hne⟩ e
    rcases Int.lt_or_gt_of_ne hne with z | z
    · have := (rkI_lt hx (y := y)).mpr z; omega
    · have := (rkI_lt hy (y := x)).mpr z; omega
  · obtain ⟨x, hx, rfl⟩ := List.mem_map.mp hr
    simpa using rkI_bd hx
section
variable {cmp : Nat → Nat → (Bool → Shared → Prop) → Shared → Prop} {s0 : Shared} {Q : Array Nat → Shared → Prop}
theorem tree_run {n : Nat} {l : List Nat} (hc : ∀ i j, i < n → j < n → i ≠ j → ∀ C : Bool → Shared → Prop, C (decide (l.getD i 0 < l.getD j 0)) s0 → cmp i j C s0) (hq : ∀ p : Array Nat, p.toList.map (fun i => l.getD i 0) = List.range n → p.toList.Perm (List.range n) → Q p s0) :
    ∀ t : PySem.W.KasT (Array Nat), chkT n l t = true → t.kasWp cmp Q s0
  | .ret p, h => by
    simp only [chkT, Bool.and_eq_true, beq_iff_eq] at h
    exact hq p h.1 (List.isPerm_iff.mp h.2)
  | .ask i j k, h => by
    simp only [chkT, Bool.and_eq_true, decide_eq_true_eq] at h
    exact hc i j h.1.1.1 h.1.1.2 h.1.2 _ (tree_run hc hq _ h.2)
theorem keys_run {xs : List Int} (h2 : 2 ≤ xs.length) (h6 : xs.length ≤ 6) (hn : xs.Nodup) (hc : ∀ i j, i < xs.length → j < xs.length → i ≠ j → ∀ C : Bool → Shared → Prop, C (decide (xs.getD i 0 < xs.getD j 0)) s0 → cmp i j C s0)
    (hq : ∀ p : Array Nat, p.toList.Perm (List.range xs.length) → (p.toList.map fun i => xs.getD i 0).Pairwise (· < ·) → Q p s0) : (PySem.W.kas_sort xs.length).kasWp cmp Q s0 := by
  have ga : ∀ i, i < xs.length → (xs.map (rkI xs)).getD i 0 = rkI xs (xs.getD i 0) ∧ xs.getD i 0 ∈ xs := fun i hi => by
    have e1 : xs.getD i 0 = xs[i] := by simp [List.getD, hi]
    refine ⟨by rw [e1]; simp [List.getD, hi], by rw [e1]; exact List.getElem_mem hi⟩
  refine tree_run (l := xs.map (rkI xs)) (fun i j hi hj hij C hC => ?_) (fun p hp1 hp2 => hq p hp2 ?_) _ (chk_all h2 h6 (rk_perm hn))
  · rw [(ga i hi).1, (ga j hj).1, decide_eq_decide.mpr (rkI_lt (ga i hi).2)] at hC
    exact hc i j hi hj hij C hC
  · have hr : (p.toList.map fun i => (xs.map (rkI xs)).getD i 0).Pairwise (· < ·) := by rw [hp1]; exact List.pairwise_lt_range
    rw [List.pairwise_map] at hr ⊢
    refine (List.Pairwise.and_mem.mp hr).imp ?_
    rintro i j ⟨hi, hj, h⟩
    have hi := List.mem_range.mp (hp2.mem_iff.mp hi)
    have hj := List.mem_range.mp (hp2.mem_iff.mp hj)
    rw [(ga i hi).1, (ga j hj).1] at h
    exact (rkI_lt (ga i hi).2).mp h
end
end L2

namespace L2
open PySem PySem.Spec PyProof.Rows PySem.SeqAt
/-! ### sorted: up to six tuples with first things of their own -/
section
variable {prog : Program} {w : World} {A : Around} {E : Value → Shared → Prop} {s : Shared}
theorem key_lt_tups {l b : Addr} {items items2 : Array Value} {n n2 : Nat} {x y : Int} {t u : Tok} {ox oy : Obj} {Q : Bool → Shared → Prop} (ho : s.heap.get? l = some ox) (dx : ox.data = .seq items n) (ho2 : s.heap.get? b = some oy) (dy : oy.data = .seq items2 n2)
    (h1 : items[0]? = some (.int x t)) (h2 : items2[0]? = some (.int y u)) (hne : x ≠ y) (h : Q (decide (x < y)) s) : wpAny (model prog w) A (keyLt' (tuples' true) (.ref l) (.ref b)) Q E s := by
  refine PySem.W.kat_lt (b := true) ho dx ho2 dy ?_
  obtain ⟨l1⟩ := items
  obtain ⟨l2⟩ := items2
  cases l1 with
  | nil => simp at h1
  | cons p r =>
    cases l2 with
    | nil => simp at h2
    | cons q r2 =>
      have e1 : p = .int x t := by simpa using h1
      have e2 : q = .int y u := by simpa using h2
      subst e1 e2
      refine PySem.W.kat_cons (wpAny_eqBool_int ?_)
      rw [show (x == y) = false by simpa using hne]
      exact PySem.W.kat_no (oneLt_int h)
def FirstsT (h : Heap) (a : Addr) (vs : List Value) (xs : List Int) : Prop := vs.length = xs.length ∧ ∀ (k : Nat) v x, vs[k]? = some v → xs[k]? = some x → ∃ r o items m t, v = .ref r ∧ r ≠ a ∧ h.get? r = some o ∧ o.cls = .type "tuple" ∧ o.data = .seq items m ∧ items[0]? = some (.int x t)
theorem firstsT_kat {h : Heap} {a : Addr} : ∀ {vs : List Value} {xs : List Int}, FirstsT h a vs xs → ∃ fs : List Value, PySem.W.KatTups h vs fs ∧ fs.length = vs.length ∧ ∀ f ∈ fs, ∃ x t, f = .int x t
  | [], _, _ => ⟨[], trivial, rfl, by simp⟩
  | v :: vs, [], hF => by have := hF.1; simp at this
  | v :: vs, x :: xs, hF => by
    obtain ⟨r, o, items, m, t, rfl, _, hg, hcl, hda, hf⟩ := hF.2 0 v x rfl rfl
    obtain ⟨fs, h1, h2, h3⟩ := firstsT_kat (vs := vs) (xs := xs) ⟨by have := hF.1; simpa using this, fun k v' x' e1 e2 => hF.2 (k + 1) v' x' (by simpa using e1) (by simpa using e2)⟩
    refine ⟨.int x t :: fs, ⟨⟨r, o, items, m, rfl, hg, hcl, hda, hf⟩, h1⟩, by simp [h2], fun f hf => ?_⟩
    rcases List.mem_cons.mp hf with rfl | hf
    · exact ⟨x, t, rfl⟩
    · exact h3 f hf
theorem list_sort_tups {a : Addr} {vs : List Value} {xs : List Int} {n : Nat} {P : PySem.Fin → Shared → Prop} (ho : s.heap.get? a = some (seqObj "list" vs.toArray n)) (hF : FirstsT s.heap a vs xs) (hx : xs.Nodup) (h6 : vs.length ≤ 6)
    (h : ∀ p : List Nat, p.Perm (List.range vs.length) → (p.map fun i => xs.getD i 0).Pairwise (· < ·) → P (.done (.ret .none)) { s with heap := sortedHeap s.heap a vs (List.toArray (p.map fun i => vs.getD i Value.none)) }) : wpAny (model prog w) A (Builtin.«list.sort» ⟨[.ref a], []⟩) P E s := by
  rw [list_sort_plain]
  have ha : a < s.heap.objs.size := Heap.lt_size ho
  have h64 : vs.length < 64 := by omega
  have hz : vs.length ≤ sizeLine := Nat.le_of_lt (Nat.lt_of_lt_of_le h64 (by decide))
  refine wpAny_bind (listItems_at ho rfl ?_)
  refine wpAny_bind (listUpdate_at ho rfl ?_ (by rw [List.size_toArray]; exact hz) (Nat.zero_le _))
  obtain ⟨e1, ho1⟩ : ∃ e1, (s.heap.update a (Obj.mapSeq fun _ => #[])).get? a = some (seqObj "list" #[] e1) := ⟨_, get?_update_seq ho (fun _ => #[])⟩
  refine wpAny_bind (seqEpoch_at ho1 rfl ?_)
  refine wpAny_bind (wpAny_newTuple ?_ (by show vs.length ≤ _; exact hz))
  refine wpAny_bind (wpAny_newList ?_ (Nat.zero_le _))
  refine wpAny_holding ?_
  have ho6 : (((s.heap.update a (Obj.mapSeq fun _ => #[])).push (seqObj "tuple" vs.toArray 0)).push (seqObj "list" #[] 0)).get? a = some (seqObj "list" #[] e1) := by
    rw [Heap.get?_push_ne _ _ _ (by rw [size_push', Heap.size_update]; exact Nat.ne_of_lt (Nat.lt_succ_of_lt ha)), Heap.get?_push_ne _ _ _ (by rw [Heap.size_update]; exact Nat.ne_of_lt ha)]
    exact ho1
  have keep : ∀ r o, r ≠ a → s.heap.get? r = some o → (((s.heap.update a (Obj.mapSeq fun _ => #[])).push (seqObj "tuple" vs.toArray 0)).push (seqObj "list" #[] 0)).get? r = some o := fun r o hr e =>
    Heap.get?_push_of_some _ (Heap.get?_push_of_some _ ((Heap.get?_update_other s.heap _ (Ne.symm hr)).trans e))
  show wpAny (model prog w) A _ P E { s with heap := ((s.heap.update a (Obj.mapSeq fun _ => #[])).push (seqObj "tuple" vs.toArray 0)).push (seqObj "list" #[] 0) }
  dsimp only
  have hsz : vs.toArray.size = vs.length := by simp
  have hsnd : (pairsOf vs).map (·.2) = vs.toArray := by
    apply Array.toList_inj.mp
    unfold pairsOf
    simp [List.map_snd_zip]
  have hgd : (List.range vs.length).map (fun i => vs.getD i Value.none) = vs := by
    refine List.ext_getElem (by simp) fun i a1 a2 => ?_
    simp [List.getD, a2]
  by_cases h2 : vs.toArray.size < 2
  · rw [if_pos h2, if_pos h2]
    refine wpAny_bind (wpAny_pure ?_)
    rw [StateT.run_pure]
    refine wpAny_bind (wpAny_pure ?_)
    dsimp only
    refine wpAny_bind (seqEpoch_at ho6 rfl ?_)
    refine wpAny_bind (listUpdate_at ho6 rfl ?_ (Nat.zero_le _) (hsz2 := by rw [Array.size_map]; show (pairsOf vs).size ≤ _; rw [pairsOf_size]; omega))
    simp only [bne_self_eq_false, Bool.false_eq_true, if_false]
    refine wpAny_pure ?_
    have h := h (List.range vs.length) (List.Perm.refl _) (by
      rw [hsz] at h2
      rcases (show vs.length = 0 ∨ vs.length = 1 by omega) with e | e <;> rw [e] <;> simp)
    rw [hgd] at h
    have : sortedHeap s.heap a vs vs.toArray = sortedHeap s.heap a vs ((pairsOf vs).map (·.2)) := by rw [hsnd]
    rw [this] at h
    exact h
  · rw [if_neg h2, if_neg h2]
    have hl2 : 2 ≤ vs.length := by rw [hsz] at h2; omega
    have hF' : FirstsT (((s.heap.update a (Obj.mapSeq fun _ => #[])).push (seqObj "tuple" vs.toArray 0)).push (seqObj "list" #[] 0)) a vs xs := ⟨hF.1, fun k v x e1 e2 => by
      obtain ⟨r, o, items, m, t, a1, a2, a3, a4⟩ := hF.2 k v x e1 e2
      exact ⟨r, o, items, m, t, a1, a2, keep r _ a2 a3, a4⟩⟩
    obtain ⟨fs, k1, k2, k3⟩ := firstsT_kat hF'
    have hT : ∀ v ∈ fs, PySem.W.Looks (model prog w) (((s.heap.update a (Obj.mapSeq fun _ => #[])).push (seqObj "tuple" vs.toArray 0)).push (seqObj "list" #[] 0)) (typeOf v) (.type "int") := fun v hv => by
      obtain ⟨x, t, rfl⟩ := k3 v hv
      exact .now
    refine wpAny_bind (PySem.W.kat_kind (T := .type "int") k1 (by omega) hT (by decide) ?_)
    rw [show (Value.type "int" != Value.type "tuple") = true by decide]
    have est : SortSt.mk' (tuples' true) (vs.toArray.zip vs.toArray) #[] 7 none = PySem.W.kas_st (tuples' true) (pairsOf vs) (List.toArray (List.range vs.length)) := by
      have e := PySem.W.kas_range (pairsOf vs)
      rw [pairsOf_size] at e
      show SortSt.mk' (tuples' true) (pairsOf vs) #[] 7 none = SortSt.mk' (tuples' true) ((List.toArray (List.range vs.length)).map (PySem.W.kas_item (pairsOf vs))) #[] 7 none
      rw [e]
    have ask : (PySem.W.kas_sort vs.length).kasWp (PySem.W.kas_cmp prog w A (tuples' true) (pairsOf vs)) (fun p s' => (p.toList.Perm (List.range vs.length) ∧ (p.toList.map fun i => xs.getD i 0).Pairwise (· < ·)) ∧ s' = { s with heap := ((s.heap.update a (Obj.mapSeq fun _ => #[])).push (seqObj "tuple" vs.toArray 0)).push (seqObj "list" #[] 0) })
        { s with heap := ((s.heap.update a (Obj.mapSeq fun _ => #[])).push (seqObj "tuple" vs.toArray 0)).push (seqObj "list" #[] 0) } := by
      rw [hF.1]
      refine keys_run (by rw [← hF.1]; exact hl2) (by rw [← hF.1]; exact h6) hx (fun i j hi hj hij C hC => ?_) fun p hp1 hp2 => ⟨⟨hp1, hp2⟩, by first | rfl | simp⟩
      unfold PySem.W.kas_cmp
      rw [PySem.W.kas_item_eq, PySem.W.kas_item_eq]
      have hi' : i < vs.length := by rw [hF.1]; exact hi
      have hj' : j < vs.length := by rw [hF.1]; exact hj
      have g : ∀ j, j < vs.length → ∃ v, vs[j]? = some v ∧ vs.getD j Value.none = v := fun j hj => ⟨vs[j], List.getElem?_eq_getElem hj, by simp [List.getD, hj]⟩
      obtain ⟨v0, g0, e0⟩ := g i hi'
      obtain ⟨v1, g1, e1'⟩ := g j hj'
      obtain ⟨r0, o0, i0, m0, t0, rfl, hr0, hg0, _, hd0, hf0⟩ := hF.2 i v0 xs[i] g0 (List.getElem?_eq_getElem hi)
      obtain ⟨r1, o1, i1, m1, t1, rfl, hr1, hg1, _, hd1, hf1⟩ := hF.2 j v1 xs[j] g1 (List.getElem?_eq_getElem hj)
      rw [e0, e1']
      have x0 : xs.getD i 0 = xs[i] := by simp [List.getD, hi]
      have x1 : xs.getD j 0 = xs[j] := by simp [List.getD, hj]
      rw [x0, x1] at hC
      refine key_lt_tups (keep r0 _ hr0 hg0) hd0 (keep r1 _ hr1 hg1) hd1 hf0 hf1 ?_ hC
      intro e
      have := (List.nodup_iff_pairwise_ne.mp hx)
      rcases Nat.lt_or_gt_of_ne hij with z | z
      · exact List.pairwise_iff_getElem.mp this i j hi hj z e
      · exact List.pairwise_iff_getElem.mp this j i hj hi z e.symm
    have run := PySem.W.kas_runs (E := E) (Q := fun _ st' s' => ∃ p : Array Nat, p.size = vs.length ∧ arrOf st' = p.map (PySem.W.kas_item (pairsOf vs)) ∧ failedOf st' = none ∧ (p.toList.Perm (List.range vs.length) ∧ (p.toList.map fun i => xs.getD i 0).Pairwise (· < ·)) ∧ s' = { s with heap := ((s.heap.update a (Obj.mapSeq fun _ => #[])).push (seqObj "tuple" vs.toArray 0)).push (seqObj "list" #[] 0) })
      hl2 h64 (fun p' st' s' a1 a2 a3 a4 => ⟨p', a1, a2, a3, a4⟩) ask
    rw [← est] at run
    refine wpAny_bind (wpAny_mono run ?_ fun _ _ e => e)
    rintro ⟨⟨⟩, st'⟩ s' ⟨p, hp, har, hf, ⟨hp1, hp2⟩, rfl⟩
    dsimp only
    have hout := PySem.W.kat_snds (ks := vs) (vs := vs) rfl har
    rw [hout]
    refine wpAny_bind (seqEpoch_at ho6 rfl ?_)
    refine wpAny_bind (listUpdate_at ho6 rfl ?_ (Nat.zero_le _) (by rw [List.size_toArray, List.length_map, Array.length_toList, hp]; omega))
    rw [hf]
    simp only [bne_self_eq_false, Bool.false_eq_true, if_false]
    exact wpAny_pure (h p.toList hp1 hp2)
end
section
variable {X : Cx}
theorem vals_pick {ys : List V} {its : List Value} (r : Vals ys its) : ∀ {p : List Nat}, (∀ i ∈ p, i < ys.length) → Vals (p.map fun i => ys.getD i .non) (p.map fun i => its.getD i Value.none)
  | [], _ => .nil
  | i :: p, h => by
    have hi := h i List.mem_cons_self
    have hi' : i < its.length := by rw [← r.length]; exact hi
    refine .cons ?_ (vals_pick r fun j hj => h j (List.mem_cons_of_mem _ hj))
    obtain ⟨u, hu, rel⟩ := r.get (List.getElem?_eq_getElem hi)
    have e1 : ys.getD i .non = ys[i] := by simp [List.getD, hi]
    have e2 : its.getD i Value.none = u := by rw [List.getD_eq_getElem?_getD, hu]; rfl
    show RelV (ys.getD i .non) (its.getD i Value.none)
    rw [e1, e2]
    exact rel
/-- sorted of a list of tuples -/
theorem call_sorted_tups : CallR X (.builtin "sorted") (fun xs H Q => ∃ (a : Addr) (ys : List V) (ns : List Int), xs = [.ref a] ∧ SqL X.K H a ys ∧ ys.length = ns.length ∧ ns.length ≤ 6 ∧ ns.Nodup ∧
    (∀ (k : Nat) y x, ys[k]? = some y → ns[k]? = some x → ∃ r zs, y = .ref r ∧ H r = some (.tup (.int x :: zs))) ∧ ∀ l H' (p : List Nat), p.Perm (List.range ys.length) → (p.map fun i => ns.getD i 0).Pairwise (· < ·) → H l = none → Same H H' → H' l = some (.lst (p.map fun i => ys.getD i .non)) → Q (.ref l) H') := by
  intro pins s σ H xs us Q I r h
  obtain ⟨a, ys, ns, rfl, ha, hl, h6, hrise, hk, q⟩ := h
  obtain ⟨u, rfl, rx⟩ := vals1 r
  cases rx
  obtain ⟨its, rv, pl, hz⟩ := I.list ha
  have hlen := rv.length
  refine Calls.call_function_entry kind_sorted plain_sorted entry_sorted (args_sorted1 _) ?_
  unfold Builtin.«sorted»
  refine wpAny_bind (m := checkCount "sorted" 1 1 _) (wpAny_pure ?_)
  refine wpAny_bind (collect_list pl.isList ?_ (by rw [← hlen]; exact hz))
  refine wpAny_bind (wpAny_newList ?_ (by rw [← hlen]; exact hz))
  have hsz : ((s.heap.push (seqObj "list" #[] 0)).update s.heap.objs.size (Obj.mapSeq (· ++ its.toArray))).objs.size = s.heap.objs.size + 1 := by
    rw [Heap.size_update, size_push']
  have hoL : (((s.heap.push (seqObj "list" #[] 0)).update s.heap.objs.size (Obj.mapSeq (· ++ its.toArray))).push (seqObj "list" its.toArray 0)).get? (s.heap.objs.size + 1) = some (seqObj "list" its.toArray 0) := by
    rw [← hsz]; exact Heap.get?_push_size _ rfl
  have keep : ∀ b o, s.heap.get? b = some o → (((s.heap.push (seqObj "list" #[] 0)).update s.heap.objs.size (Obj.mapSeq (· ++ its.toArray))).push (seqObj "list" its.toArray 0)).get? b = some o := fun b o q => by
    have hlt : b < s.heap.objs.size := Heap.lt_size q
    rw [Heap.get?_push_ne _ _ _ (by rw [hsz]; exact Nat.ne_of_lt (Nat.lt_succ_of_lt hlt)), Heap.get?_update_ne _ _ _ _ (Nat.ne_of_lt hlt), Heap.get?_push_ne _ _ _ (Nat.ne_of_lt hlt)]
    exact q
  show wpAny _ _ _ _ _ { s with heap := ((s.heap.push (seqObj "list" #[] 0)).update s.heap.objs.size (Obj.mapSeq (· ++ its.toArray))).push (seqObj "list" its.toArray 0) }
  rw [hsz]
  have hF : FirstsT (((s.heap.push (seqObj "list" #[] 0)).update s.heap.objs.size (Obj.mapSeq (· ++ its.toArray))).push (seqObj "list" its.toArray 0)) (s.heap.objs.size + 1) its ns := by
    refine ⟨by omega, fun k v x hv hx => ?_⟩
    obtain ⟨y, hy⟩ : ∃ y, ys[k]? = some y := ⟨ys[k]'(by have := (List.getElem?_eq_some_iff.mp hv).1; omega), List.getElem?_eq_getElem _⟩
    obtain ⟨v', hv', rel⟩ := rv.get hy
    rw [hv] at hv'
    cases hv'
    obtain ⟨r, zs, rfl, hr⟩ := hk k y x hy hx
    cases rel
    obtain ⟨_, its2, rv2, o2, e2, c2, n2, d2⟩ := I.hok r _ hr
    cases rv2 with
    | @cons y0 u0 ys0 us0 r0 t0 =>
      obtain ⟨t, rfl⟩ := r0
      exact ⟨r, o2, _, n2, t, rfl, Nat.ne_of_lt (Nat.lt_succ_of_lt (Heap.lt_size e2)), keep r _ e2, c2, d2, by simp⟩
  refine wpAny_bind (wpAny_holding (wpAny_call_entry slot_list_sort ⟨_, hoL, rfl⟩ entry_list_sort (list_sort_tups hoL hF hrise (by omega) fun p hp1 hp2 => ⟨_, rfl, ?_⟩) (args_list_sort _)))
  refine wpAny_pure ⟨_, rfl, ?_⟩
  obtain ⟨e, he⟩ := sortedAll_at s.heap its (List.toArray (p.map fun i => its.getD i Value.none))
  have hpl : ∀ i ∈ p, i < ys.length := fun i hi => by rw [hlen]; exact List.mem_range.mp (hp1.mem_iff.mp hi)
  refine ⟨.ref (s.heap.objs.size + 1), _, I.laid (t' := s.toks) (fun b o e => sortedAll_old e) (Nat.le_succ _) (show ObjOk X.prog X.w _ _ _ (.lst (p.map fun i => ys.getD i .non)) from ⟨?_, _, e, vals_pick rv hpl, he⟩), rfl, q _ _ p (by rw [hlen]; exact hp1) hp2 (I.hok.fresh (Nat.le_succ _)) (same_fresh _ (I.hok.fresh (Nat.le_succ _))) upd_same⟩
  rw [List.length_map, hp1.length_eq, List.length_range, ← hlen]
  exact hz
end
end L2

namespace L2
open PySem PySem.Spec PyProof.Rows PySem.SeqAt
/-! ### a dict's items, sorted -/
section
variable {X : Cx} {pins : List (Addr × Obj)} {σ : St} {H H' : Hp} {s : Shared} {h' : Heap}
/-- more than one new object -/
theorem Inv.grow {t' : Nat} (I : Inv X pins σ H s) (k : ∀ b u, s.heap.get? b = some u → h'.get? b = some u) (S : Same H H') (fr : ∀ b, b < s.heap.objs.size → H b = none → H' b = none) (new : ∀ b o, H' b = some o → H b = none → ObjOk X.prog X.w H' h' b o) : Inv X pins σ H' { s with heap := h', toks := t' } := by
  refine I.un ⟨fun b u q _ _ _ => k b u q, fun b u q _ _ _ => ⟨u.slots, k b u q⟩, fun b u q n _ => fr b (Heap.lt_size q) n, fun b u q _ => ⟨u, k b u q⟩, fun b xs q => S _ _ q, fun b u xs q => S _ _ q, fun b ps q => ⟨#[], by rw [S _ _ q]; simp⟩⟩ fun b o e => ?_
  cases e2 : H b with
  | none => exact new b o e e2
  | some o2 =>
    have := S _ _ e2
    rw [e] at this
    cases this
    exact (I.hok b o e2).stay (fun c v _ q => k c v q) (fun c q => S _ _ q) fun c xs q => S _ _ q
def manyH (H : Hp) : List (Addr × HO) → Hp
  | [] => H
  | p :: r => upd (manyH H r) p.1 p.2
theorem manyH_cases : ∀ {ps : List (Addr × HO)} {b : Addr} {o : HO}, manyH H ps b = some o → (b, o) ∈ ps ∨ ((∀ p ∈ ps, p.1 ≠ b) ∧ H b = some o)
  | [], b, o, e => .inr ⟨fun _ h => (List.not_mem_nil h).elim, e⟩
  | p :: r, b, o, e => by
    by_cases hb : b = p.1
    · subst hb
      have e' : upd (manyH H r) p.1 p.2 p.1 = some o := e
      rw [upd_same] at e'
      cases e'
      exact .inl List.mem_cons_self
    · have e' : upd (manyH H r) p.1 p.2 b = some o := e
      rw [upd_ne hb] at e'
      rcases manyH_cases e' with z | ⟨z1, z2⟩
      · exact .inl (List.mem_cons_of_mem _ z)
      · exact .inr ⟨fun q hq => by rcases List.mem_cons.mp hq with rfl | hq; exact fun z => hb z.symm; exact z1 q hq, z2⟩
theorem manyH_old : ∀ {ps : List (Addr × HO)} {b : Addr}, (∀ p ∈ ps, p.1 ≠ b) → manyH H ps b = H b
  | [], _, _ => rfl
  | p :: r, b, h => by
    show upd (manyH H r) p.1 p.2 b = H b
    rw [upd_ne (fun z => h p List.mem_cons_self z.symm)]
    exact manyH_old fun q hq => h q (List.mem_cons_of_mem _ hq)
theorem manyH_at : ∀ {ps : List (Addr × HO)} {p : Addr × HO}, (ps.map (·.1)).Nodup → p ∈ ps → manyH H ps p.1 = some p.2
  | q :: r, p, hn, hp => by
    rw [List.map_cons, List.nodup_cons] at hn
    show upd (manyH H r) q.1 q.2 p.1 = some p.2
    rcases List.mem_cons.mp hp with rfl | hp
    · exact upd_same
    · rw [upd_ne fun z => hn.1 (by rw [← z]; exact List.mem_map_of_mem hp)]
      exact manyH_at hn.2 hp
def itemsO (v a : Addr) : HO := .ext fun h => h.IsItemsView v a
theorem items_at {v a : Addr} (I : Inv X pins σ H s) (h : H v = some (itemsO v a)) : s.heap.IsItemsView v a := (show ObjOk X.prog X.w H s.heap v (.ext fun h => h.IsItemsView v a) from I.hok v _ h).1
end
section
variable {X : Cx}
theorem mt_items : MtR X "dict.items" (fun x xs H Q => ∃ a kvs, x = .ref a ∧ xs = [] ∧ H a = some (.dK kvs) ∧ ∀ v, H v = none → Q (.ref v) (upd H v (itemsO v a))) := by
  intro pins s σ H x xs v us Q I rx rv h
  obtain ⟨a, kvs, rfl, rfl, ha, q⟩ := h
  cases rx
  cases rv
  obtain ⟨hz, hsm, vs, kv, dd⟩ := dk_of I.hok ha
  refine call_meetsIn PySem.F.slot_dict_items dd.typeIs PySem.F.entry_dict_items (PySem.F.args_dict_items_1 _) (meets_dict_items (mixKind X.prog X.w) a hsm) ⟨⟨_, dd⟩, ?_⟩
  refine ⟨.ref s.heap.objs.size, _, I.laid (t' := s.toks) (fun b o e => Heap.get?_push_of_some _ e) (Nat.le_refl _) ?_, rfl, q _ I.fresh⟩
  have e : (s.heap.push { cls := .type "dict_items", data := .fields #[.ref a] }).get? s.heap.objs.size = some { cls := .type "dict_items", data := .fields #[.ref a] } := Heap.get?_push_size _ rfl
  exact ⟨⟨_, e, rfl, rfl⟩, ⟨_, e⟩, fun h1 h2 ⟨o, p1, p2⟩ k => ⟨o, k o p1, p2⟩⟩
theorem kv_val {l1 : List (Key × V)} {l2 : List (Key × Value)} (hk : KV l1 l2) : ∀ (j : Nat) x y, l1[j]? = some x → l2[j]? = some y → x.1 = y.1 ∧ RelV x.2 y.2 := by
  unfold KV at hk
  induction hk with
  | nil => intro j x y e; simp at e
  | cons p r ih =>
    intro j x y e1 e2
    cases j with
    | zero => simp at e1 e2; subst e1; subst e2; exact p
    | succ j => exact ih j x y (by simpa using e1) (by simpa using e2)
theorem call_sorted_items (hc : X.calm = true) : CallR X (.builtin "sorted") (fun xs H Q => ∃ (v a : Addr) (kvs : List (Key × V)) (ns : List Int), xs = [.ref v] ∧ H v = some (itemsO v a) ∧ H a = some (.dK kvs) ∧ kvs.map (fun kv => kV kv.1) = ns.map V.int ∧ ns.length ≤ 6 ∧ ns.Nodup ∧
    ∀ (p : List Nat) (ts : List Addr) l H', p.Perm (List.range ns.length) → (p.map fun i => ns.getD i 0).Pairwise (· < ·) → ts.length = ns.length → H l = none → Same H H' →
      (∀ (i : Nat) n kv t, ns[i]? = some n → kvs[i]? = some kv → ts[i]? = some t → H' t = some (.tup [.int n, kv.2])) → H' l = some (.lst (p.map fun i => .ref (ts.getD i 0))) → Q (.ref l) H') := by
  intro pins s σ H xs us Q I r h
  obtain ⟨v, a, kvs, ns, rfl, hv, ha, hk, h6, hn, q⟩ := h
  obtain ⟨u, rfl, rx⟩ := vals1 r
  cases rx
  obtain ⟨hz, hsm, vs, kv, dd⟩ := dk_of I.hok ha
  obtain ⟨ep, hat⟩ := dd.dictAt
  have hkl : kvs.length = ns.length := by have := congrArg List.length hk; simpa using this
  have hvl := kv.length
  refine Calls.call_function_entry kind_sorted plain_sorted entry_sorted (args_sorted1 _) ?_
  unfold Builtin.«sorted»
  refine wpAny_bind (m := checkCount "sorted" 1 1 _) (wpAny_pure ?_)
  refine wpAny_bind (PySem.W.kdx_collect (A := X.A.in1) (knd := mixKind X.prog X.w) (I.ok.hd hc) (items_at I hv) hat (by rw [← hvl]; exact hz) fun h' tk as kp hal hG => ?_)
  have hz64 : as.length ≤ sizeLine := by rw [hal, ← hvl]; exact hz
  refine wpAny_bind (wpAny_newList ?_ (by rw [List.length_map]; exact hz64))
  have hoL : (h'.push (seqObj "list" (as.map Value.ref).toArray 0)).get? h'.objs.size = some (seqObj "list" (as.map Value.ref).toArray 0) := Heap.get?_push_size _ rfl
  -- what lies at each pair
  have pair : ∀ (j : Nat) t, as[j]? = some t → ∃ n kv' key u, ns[j]? = some n ∧ kvs[j]? = some kv' ∧ h'.get? t = some { cls := .type "tuple", data := .seq #[key, u] } ∧ RelV (.int n) key ∧ RelV kv'.2 u := fun j t ht => by
    obtain ⟨key, k, u, e1, e2, e3⟩ := hG.pairs j t ht
    have hj : j < vs.length := (List.getElem?_eq_some_iff.mp e1).1
    have hjk : j < kvs.length := by omega
    obtain ⟨ek, rv⟩ := kv_val kv j _ _ (List.getElem?_eq_getElem hjk) e1
    have hjn : j < ns.length := by omega
    refine ⟨ns[j], kvs[j], key, u, List.getElem?_eq_getElem hjn, List.getElem?_eq_getElem hjk, e3, ?_, rv⟩
    have en : kV kvs[j].1 = V.int ns[j] := by
      have := congrArg (fun l => l[j]?) hk
      simp only [List.getElem?_map, List.getElem?_eq_getElem hjk, List.getElem?_eq_getElem hjn, Option.map_some, Option.some.injEq] at this
      exact this
    rcases keyIs_shape e2 with ⟨i, t, e6, rfl⟩ | ⟨z, t, e6, rfl⟩
    · rw [ek, show k = Sum.inl i from e6] at en
      have en : V.int i = V.int ns[j] := en
      rw [← en]
      exact ⟨t, rfl⟩
    · rw [ek, show k = Sum.inr z from e6] at en
      have en : V.str z = V.int ns[j] := en
      cases en
  have hF : FirstsT (h'.push (seqObj "list" (as.map Value.ref).toArray 0)) h'.objs.size (as.map Value.ref) ns := by
    refine ⟨by rw [List.length_map]; omega, fun j x n hx hn' => ?_⟩
    rw [List.getElem?_map] at hx
    cases et : as[j]? with
    | none => rw [et] at hx; cases hx
    | some t =>
      rw [et] at hx
      cases hx
      obtain ⟨n', kv', key, u, a1, a2, a3, ⟨tk', rfl⟩, a5⟩ := pair j t et
      rw [hn'] at a1
      cases a1
      exact ⟨t, _, _, _, tk', rfl, Nat.ne_of_lt (Heap.lt_size a3), Heap.get?_push_of_some _ a3, rfl, rfl, by simp⟩
  refine wpAny_bind (wpAny_holding (wpAny_call_entry slot_list_sort ⟨_, hoL, rfl⟩ entry_list_sort (list_sort_tups hoL hF hn (by rw [List.length_map]; omega) fun p hp1 hp2 => ⟨_, rfl, ?_⟩) (args_list_sort _)))
  refine wpAny_pure ⟨_, rfl, ?_⟩
  rw [List.length_map] at hp1
  obtain ⟨e, he⟩ := sortedHeap_at (out := List.toArray (p.map fun i => (as.map Value.ref).getD i Value.none)) hoL
  have hpl : ∀ i ∈ p, i < as.length := fun i hi => List.mem_range.mp (hp1.mem_iff.mp hi)
  have keep : ∀ b o, h'.get? b = some o → (sortedHeap (h'.push (seqObj "list" (as.map Value.ref).toArray 0)) h'.objs.size (as.map Value.ref) (List.toArray (p.map fun i => (as.map Value.ref).getD i Value.none))).get? b = some o := fun b o q => by
    have hlt := Heap.lt_size q
    rw [sortedHeap_old (Nat.ne_of_lt hlt) (by rw [size_push']; exact Nat.lt_succ_of_lt hlt)]
    exact Heap.get?_push_of_some _ q
  -- the pairs
  have gt : ∀ (j : Nat) t, as[j]? = some t → as.getD j 0 = t := fun j t h => by rw [List.getD_eq_getElem?_getD, h]; rfl
  let ps : List (Addr × HO) := (List.range as.length).map fun j => (as.getD j 0, HO.tup [.int (ns.getD j 0), (kvs.getD j (Sum.inl 0, .non)).2])
  have hps : ∀ x ∈ ps, ∃ (j : Nat) (t : Addr) (n : Int) (kv' : Key × V) (key u : Value), as[j]? = some t ∧ x = (t, HO.tup [.int n, kv'.2]) ∧ h'.get? t = some { cls := .type "tuple", data := .seq #[key, u] } ∧ RelV (.int n) key ∧ RelV kv'.2 u := fun x hx => by
    obtain ⟨j, hj, rfl⟩ := List.mem_map.mp hx
    have hj : j < as.length := by simpa using hj
    obtain ⟨n, kv', key, u, a1, a2, a3, a4, a5⟩ := pair j as[j] (List.getElem?_eq_getElem hj)
    refine ⟨j, as[j], n, kv', key, u, List.getElem?_eq_getElem hj, ?_, a3, a4, a5⟩
    rw [gt j _ (List.getElem?_eq_getElem hj), List.getD_eq_getElem?_getD, a1, List.getD_eq_getElem?_getD, a2]
    rfl
  have habove : ∀ x ∈ ps, s.heap.objs.size < x.1 := fun x hx => by
    obtain ⟨j, t, n, kv', key, u, a1, rfl, _⟩ := hps x hx
    exact hG.above t (List.mem_of_getElem? a1)
  have hfr : ∀ x ∈ ps, H x.1 = none := fun x hx => I.hok.fresh (Nat.le_of_lt (habove x hx))
  have hnd : (ps.map (·.1)).Nodup := by
    have e : ps.map (·.1) = as := by
      show ((List.range as.length).map _).map _ = as
      rw [List.map_map]
      refine List.ext_getElem (by simp) fun j a1 a2 => ?_
      simp [List.getD, a2]
    rw [e]
    exact hG.rise.imp fun h => Nat.ne_of_lt h
  have S1 : Same H (manyH H ps) := fun b o e => by
    rw [manyH_old fun x hx z => by have := hfr x hx; rw [z, e] at this; cases this]
    exact e
  have I1 : Inv X pins σ (manyH H ps) { s with heap := h', toks := tk } := I.grow (t' := tk) kp S1 (fun b hb hn' => by
      rw [manyH_old fun x hx z => by have := habove x hx; rw [z] at this; exact absurd hb (Nat.not_lt_of_gt this)]
      exact hn') fun b o e e2 => by
    rcases manyH_cases e with z | ⟨_, z⟩
    · obtain ⟨j, t, n, kv', key, u, a1, a2, a3, a4, a5⟩ := hps _ z
      cases a2
      exact ⟨by show 2 ≤ sizeLine; decide, [key, u], .cons a4 (.cons a5 .nil), ⟨_, a3, rfl, 0, rfl⟩⟩
    · rw [e2] at z
      cases z
  have hfl := I1.hok.fresh (Nat.le_refl _)
  have S2 : Same (manyH H ps) (upd (manyH H ps) h'.objs.size (.lst (p.map fun i => V.ref (as.getD i 0)))) := same_fresh _ hfl
  have hHl : H h'.objs.size = none := by
    cases e2 : H h'.objs.size with
    | none => rfl
    | some o2 => have := S1 _ _ e2; rw [hfl] at this; cases this
  refine ⟨.ref h'.objs.size, _, I1.laid (t' := tk) keep (Nat.le_refl _) (show ObjOk X.prog X.w _ _ _ (.lst (p.map fun i => V.ref (as.getD i 0))) from ⟨?_, _, e, ?_, he⟩), rfl, q p as _ _ (by rw [← hkl, hvl, ← hal]; exact hp1) hp2 (by omega) hHl (S1.trans S2) (fun i n kv' t b1 b2 b3 => ?_) upd_same⟩
  · rw [List.length_map, hp1.length_eq, List.length_range]
    exact hz64
  · have e9 : (p.map fun i => (as.map Value.ref).getD i Value.none) = p.map fun i => Value.ref (as.getD i 0) := List.map_congr_left fun i hi => by
      have := hpl i hi
      simp [List.getD, this]
    rw [e9]
    clear e9 he e keep
    induction p with
    | nil => exact .nil
    | cons x r ih => exact .cons rfl (by
        have : ∀ l : List Nat, Vals (l.map fun i => V.ref (as.getD i 0)) (l.map fun i => Value.ref (as.getD i 0)) := fun l => by
          induction l with
          | nil => exact .nil
          | cons y z ih => exact .cons rfl ih
        exact this r)
  · refine S2 _ _ ?_
    obtain ⟨n', kv'', key, u, a1, a2, a3, a4, a5⟩ := pair i t b3
    rw [b1] at a1
    cases a1
    rw [b2] at a2
    cases a2
    have hi : i < as.length := (List.getElem?_eq_some_iff.mp b3).1
    have hm : (t, HO.tup [.int n, kv'.2]) ∈ ps := by
      refine List.mem_map.mpr ⟨i, by simpa using hi, ?_⟩
      rw [gt i t b3, List.getD_eq_getElem?_getD, b1, List.getD_eq_getElem?_getD, b2]
      rfl
    exact manyH_at hnd hm
end
theorem wpe_bmF_K {X : Cx} {K : PySem.W.Frag} {o e : Expr} {es : List Expr} {to : TE} {t : TA} {T name id : _} {apos cpos : Pos} {rm : V → List V → Hp → VK → Prop} (h : X.K = K) (pa : PlainAttrs T) (slot : Slot T name id) (hty : typeOf (.builtin id) = pure (.type "method_descriptor")) (hm : MtR X id rm) (ho : WE X o to) (ha : WA X (e :: es) t)
    (hbase : attributeBase o name X.env (eval o X.env) = eval o X.env := by rfl) (hl : decide ((e :: es).length + 0 + 0 < 30) = true := by rfl)
    (hline : (apos.endLine == cpos.line) = true := by rfl) (hs : noStars (e :: es) = true := by rfl) : WE X (.Call (.Attribute o name apos) (e :: es) [] cpos) (tBM K T rm to t) := by
  subst h
  exact wpe_bmF pa slot hty hm ho ha hbase hl hline hs
end L2

namespace Lw
open PySem L2
def top (i : Nat) : Stmt := PySem.Challenge.pw_lotwander_k09_whole_like.main.body.getD i (.Pass ⟨0, 0, 0, 0⟩)
abbrev s_is_whole : Stmt := top 7
abbrev n_is_whole : List Str := ["thing"]
abbrev p_is_whole : List Str := ["thing"]
theorem sc_is_whole : FnScope n_is_whole p_is_whole (defScope s_is_whole) := ⟨rfl, rfl, rfl, by decide +kernel, rfl, by decide +kernel, by decide +kernel⟩
abbrev s_common_divisor : Stmt := top 8
abbrev n_common_divisor : List Str := ["first", "second", "larger", "smaller", "rest"]
abbrev p_common_divisor : List Str := ["first", "second"]
theorem sc_common_divisor : FnScope n_common_divisor p_common_divisor (defScope s_common_divisor) := ⟨rfl, rfl, rfl, by decide +kernel, rfl, by decide +kernel, by decide +kernel⟩
abbrev s_is_fraction : Stmt := top 9
abbrev n_is_fraction : List Str := ["thing"]
abbrev p_is_fraction : List Str := ["thing"]
theorem sc_is_fraction : FnScope n_is_fraction p_is_fraction (defScope s_is_fraction) := ⟨rfl, rfl, rfl, by decide +kernel, rfl, by decide +kernel, by decide +kernel⟩
abbrev s_reduced : Stmt := top 10
abbrev n_reduced : List Str := ["upper", "lower", "divisor"]
abbrev p_reduced : List Str := ["upper", "lower"]
theorem sc_reduced : FnScope n_reduced p_reduced (defScope s_reduced) := ⟨rfl, rfl, rfl, by decide +kernel, rfl, by decide +kernel, by decide +kernel⟩
abbrev s_plus : Stmt := top 11
abbrev n_plus : List Str := ["first", "second"]
abbrev p_plus : List Str := ["first", "second"]
theorem sc_plus : FnScope n_plus p_plus (defScope s_plus) := ⟨rfl, rfl, rfl, by decide +kernel, rfl, by decide +kernel, by decide +kernel⟩
abbrev s_total : Stmt := top 12
abbrev n_total : List Str := ["fractions", "together", "fraction"]
abbrev p_total : List Str := ["fractions"]
theorem sc_total : FnScope n_total p_total (defScope s_total) := ⟨rfl, rfl, rfl, by decide +kernel, rfl, by decide +kernel, by decide +kernel⟩
abbrev s_is_room : Stmt := top 15
abbrev n_is_room : List Str := ["thing", "count"]
abbrev p_is_room : List Str := ["thing", "count"]
theorem sc_is_room : FnScope n_is_room p_is_room (defScope s_is_room) := ⟨rfl, rfl, rfl, by decide +kernel, rfl, by decide +kernel, by decide +kernel⟩
abbrev s_is_pair : Stmt := top 16
abbrev n_is_pair : List Str := ["thing", "count"]
abbrev p_is_pair : List Str := ["thing", "count"]
theorem sc_is_pair : FnScope n_is_pair p_is_pair (defScope s_is_pair) := ⟨rfl, rfl, rfl, by decide +kernel, rfl, by decide +kernel, by decide +kernel⟩
abbrev s_is_spread : Stmt := top 17
abbrev n_is_spread : List Str := ["thing", "count", "last", "shares", "pair"]
abbrev p_is_spread : List Str := ["thing", "count"]
theorem sc_is_spread : FnScope n_is_spread p_is_spread (defScope s_is_spread) := ⟨rfl, rfl, rfl, by decide +kernel, rfl, by decide +kernel, by decide +kernel⟩
abbrev s_is_walk : Stmt := top 18
abbrev n_is_walk : List Str := ["thing"]
abbrev p_is_walk : List Str := ["thing"]
theorem sc_is_walk : FnScope n_is_walk p_is_walk (defScope s_is_walk) := ⟨rfl, rfl, rfl, by decide +kernel, rfl, by decide +kernel, by decide +kernel⟩
abbrev s_checked : Stmt := top 19
abbrev n_checked : List Str := ["walk"]
abbrev p_checked : List Str := ["walk"]
theorem sc_checked : FnScope n_checked p_checked (defScope s_checked) := ⟨rfl, rfl, rfl, by decide +kernel, rfl, by decide +kernel, by decide +kernel⟩
abbrev s_is_marks : Stmt := top 21
abbrev n_is_marks : List Str := ["thing", "count"]
abbrev p_is_marks : List Str := ["thing", "count"]
theorem sc_is_marks : FnScope n_is_marks p_is_marks (defScope s_is_marks) := ⟨rfl, rfl, rfl, by decide +kernel, rfl, by decide +kernel, by decide +kernel⟩
abbrev s_checked_marks : Stmt := top 22
abbrev n_checked_marks : List Str := ["marks", "count"]
abbrev p_checked_marks : List Str := ["marks", "count"]
theorem sc_checked_marks : FnScope n_checked_marks p_checked_marks (defScope s_checked_marks) := ⟨rfl, rfl, rfl, by decide +kernel, rfl, by decide +kernel, by decide +kernel⟩
abbrev s_first_places : Stmt := top 23
abbrev n_first_places : List Str := ["things"]
abbrev p_first_places : List Str := ["things"]
theorem sc_first_places : FnScope n_first_places p_first_places (defScope s_first_places) := ⟨rfl, rfl, rfl, by decide +kernel, rfl, by decide +kernel, by decide +kernel⟩
abbrev s_share_into : Stmt := top 24
abbrev n_share_into : List Str := ["spread", "alike", "least"]
abbrev p_share_into : List Str := ["spread", "alike", "least"]
theorem sc_share_into : FnScope n_share_into p_share_into (defScope s_share_into) := ⟨rfl, rfl, rfl, by decide +kernel, rfl, by decide +kernel, by decide +kernel⟩
abbrev s_shares_into_all : Stmt := top 25
abbrev n_shares_into_all : List Str := ["spread", "alike"]
abbrev p_shares_into_all : List Str := ["spread", "alike"]
theorem sc_shares_into_all : FnScope n_shares_into_all p_shares_into_all (defScope s_shares_into_all) := ⟨rfl, rfl, rfl, by decide +kernel, rfl, by decide +kernel, by decide +kernel⟩
abbrev s_likeness : Stmt := top 26
abbrev n_likeness : List Str := ["walk", "marks", "before", "alike"]
abbrev p_likeness : List Str := ["walk", "marks"]
theorem sc_likeness : FnScope n_likeness p_likeness (defScope s_likeness) := ⟨rfl, rfl, rfl, by decide +kernel, rfl, by decide +kernel, by decide +kernel⟩
abbrev s_law_cell_at : Stmt := top 28
abbrev n_law_cell_at : List Str := ["_law_script", "_law_k"]
abbrev p_law_cell_at : List Str := ["_law_script", "_law_k"]
theorem sc_law_cell_at : FnScope n_law_cell_at p_law_cell_at (defScope s_law_cell_at) := ⟨rfl, rfl, rfl, by decide +kernel, rfl, by decide +kernel, by decide +kernel⟩
abbrev s_law_mixed : Stmt := top 29
abbrev n_law_mixed : List Str := ["_law_script", "_law_k", "_law_many", "_law_drawn"]
abbrev p_law_mixed : List Str := ["_law_script", "_law_k", "_law_many"]
theorem sc_law_mixed : FnScope n_law_mixed p_law_mixed (defScope s_law_mixed) := ⟨rfl, rfl, rfl, by decide +kernel, rfl, by decide +kernel, by decide +kernel⟩
abbrev s_law_divisor : Stmt := top 30
abbrev n_law_divisor : List Str := ["_law_a", "_law_b", "_law_left"]
abbrev p_law_divisor : List Str := ["_law_a", "_law_b"]
theorem sc_law_divisor : FnScope n_law_divisor p_law_divisor (defScope s_law_divisor) := ⟨rfl, rfl, rfl, by decide +kernel, rfl, by decide +kernel, by decide +kernel⟩
abbrev s_law_frac : Stmt := top 31
abbrev n_law_frac : List Str := ["_law_upper", "_law_lower", "_law_same"]
abbrev p_law_frac : List Str := ["_law_upper", "_law_lower"]
theorem sc_law_frac : FnScope n_law_frac p_law_frac (defScope s_law_frac) := ⟨rfl, rfl, rfl, by decide +kernel, rfl, by decide +kernel, by decide +kernel⟩
abbrev s_law_spread : Stmt := top 32
abbrev n_law_spread : List Str := ["_law_script", "_law_at", "_law_many", "_law_weights", "_law_k", "_law_room", "_law_whole"]
abbrev p_law_spread : List Str := ["_law_script", "_law_at", "_law_many"]
theorem sc_law_spread : FnScope n_law_spread p_law_spread (defScope s_law_spread) := ⟨rfl, rfl, rfl, by decide +kernel, rfl, by decide +kernel, by decide +kernel⟩
abbrev s_law_walk : Stmt := top 33
abbrev n_law_walk : List Str := ["_law_script", "_law_at", "_law_many"]
abbrev p_law_walk : List Str := ["_law_script", "_law_at"]
theorem sc_law_walk : FnScope n_law_walk p_law_walk (defScope s_law_walk) := ⟨rfl, rfl, rfl, by decide +kernel, rfl, by decide +kernel, by decide +kernel⟩
abbrev s_law_add : Stmt := top 34
abbrev n_law_add : List Str := ["_law_a", "_law_b", "_law_many"]
abbrev p_law_add : List Str := ["_law_a", "_law_b", "_law_many"]
theorem sc_law_add : FnScope n_law_add p_law_add (defScope s_law_add) := ⟨rfl, rfl, rfl, by decide +kernel, rfl, by decide +kernel, by decide +kernel⟩
abbrev s_law_doubled : Stmt := top 35
abbrev n_law_doubled : List Str := ["_law_script", "_law_walk_here", "_law_many", "_law_made", "_law_turn", "_law_spread_here", "_law_weights", "_law_k", "_law_pair", "_law_share"]
abbrev p_law_doubled : List Str := ["_law_script", "_law_walk_here"]
theorem sc_law_doubled : FnScope n_law_doubled p_law_doubled (defScope s_law_doubled) := ⟨rfl, rfl, rfl, by decide +kernel, rfl, by decide +kernel, by decide +kernel⟩
abbrev s_law_shares : Stmt := top 36
abbrev n_law_shares : List Str := ["_law_spread_here", "_law_kinds", "_law_made", "_law_room", "_law_share"]
abbrev p_law_shares : List Str := ["_law_spread_here", "_law_kinds"]
theorem sc_law_shares : FnScope n_law_shares p_law_shares (defScope s_law_shares) := ⟨rfl, rfl, rfl, by decide +kernel, rfl, by decide +kernel, by decide +kernel⟩
abbrev s_law : Stmt := top 37
abbrev n_law : List Str := ["_law_script", "_law_walk_here", "_law_marks", "_law_kinds", "_law_turn", "_law_signs", "_law_handed", "_law_found"]
abbrev p_law : List Str := ["_law_script"]
theorem sc_law : FnScope n_law p_law (defScope s_law) := ⟨rfl, rfl, rfl, by decide +kernel, rfl, by decide +kernel, by decide +kernel⟩
end Lw
/-! ### numbers -/
namespace Lw
open L2
theorem gcd_step (L S : Nat) : Nat.gcd S (L % S) = Nat.gcd L S := by
  rw [Nat.gcd_comm L S, Nat.gcd_rec S L, Nat.gcd_comm]
theorem abs_nat (i : Int) : (if i < 0 then -i else i) = (i.natAbs : Int) := by
  split <;> omega
theorem gcd_pos {u l : Int} (h : 0 < l) : 0 < Int.gcd u l := by
  have : Int.gcd u l ≠ 0 := by
    intro z
    rw [Int.gcd_eq_zero_iff] at z
    omega
  omega
theorem gcd_le {u l : Int} (h : 0 < l) : (Int.gcd u l : Int) ≤ l := Int.le_of_dvd h (Int.gcd_dvd_right ..)
end Lw
/-! ### the law's own inputs -/
namespace Lw
open PySem L2
/-- a def of the text, with its name bound and its arguments -/
structure Df (K : PySem.W.Frag) (mg : Str → Option Value) (x : Str) (st : Stmt) (ps : List Str) (f : Addr) (fd : FuncData) : Prop where
  F : Fun K x x st f fd
  b : Binds K fd ps []
  m : mg x = some (.ref f)
/-- the built-in names that the text leaves -/
structure Bn (mg : Str → Option Value) : Prop where
  len : mg "len" = none
  abs : mg "abs" = none
  range : mg "range" = none
  sum : mg "sum" = none
  tuple : mg "tuple" = none
  list : mg "list" = none
  sorted : mg "sorted" = none
  isinstance : mg "isinstance" = none
  int : mg "int" = none
  bool : mg "bool" = none
  all : mg "all" = none

def spCell (K : PySem.W.Frag) : Sp := fun vs H Q _ => ∃ (a : Addr) (ns : List Int) (k : Int), vs = [.ref a, .int k] ∧ SqL K H a (ns.map V.int) ∧ 0 ≤ k ∧ ∀ (i : Int) (H' : Hp), Same H H' → Q (.int i) H'
def spMixed (K : PySem.W.Frag) : Sp := fun vs H Q _ => ∃ (a : Addr) (ns : List Int) (k m : Int), vs = [.ref a, .int k, .int m] ∧ SqL K H a (ns.map V.int) ∧ 0 ≤ k ∧ k < 1000000 ∧ 1 ≤ m ∧ ∀ (i : Int) (H' : Hp), Same H H' → 0 ≤ i → i < m → Q (.int i) H'
def spGcd : Sp := fun vs H Q _ => ∃ a b : Int, vs = [.int a, .int b] ∧ Q (.int (Int.gcd a b)) H
def frU (u l : Int) : Int := u / (Int.gcd u l : Int)
def frL (u l : Int) : Int := l / (Int.gcd u l : Int)
def spFrac : Sp := fun vs H Q _ => ∃ u l : Int, vs = [.int u, .int l] ∧ 0 < l ∧ l < 1073741824 ∧ ∀ p, H p = none → Q (.ref p) (upd H p (.tup [.int (frU u l), .int (frL u l)]))

theorem atI_lt {ns : List Int} {k : Int} (h0 : 0 ≤ k) (h : k < (ns.length : Int)) : atI (ns.map V.int) k = some (.int (ns.getD k.toNat 0)) := by
  obtain ⟨j, rfl⟩ : ∃ j : Nat, k = (j : Int) := ⟨k.toNat, by omega⟩
  have hj : j < ns.length := by omega
  refine atI_nat ?_
  rw [List.getElem?_map, List.getElem?_eq_getElem hj]
  simp [List.getD, hj]
theorem hu60 {A : Around} {k : Nat} (hr : Room k A) : A.units + 60 < cLine := by have := hr.un; omega
theorem dep_ints (l : List Int) : depDs (l.map D.int) = 0 := by
  induction l with
  | nil => rfl
  | cons x r ih => simp [depDs, depD, ih]
theorem same_new {H : Hp} {l : Addr} (o : HO) (h : H l = none) : Same H (upd H l o) := fun b u e => by rw [upd_ne (ne_of_none e h)]; exact e

section
variable {P : Program} {w : World} {K : PySem.W.Frag} {mg : Str → Option Value} {base : Heap}
theorem ok_law_cell_at {f : Addr} {fd : FuncData} (B : Bn mg) (G : Df K mg "_law_cell_at" s_law_cell_at p_law_cell_at f fd) : FnOk P w K mg base CX0 1 f fd p_law_cell_at (spCell K) := by
  refine G.F.ok sc_law_cell_at (fun vs H Q E h => ?_) (fun cdv A outer s H vs Q E hr h => ?_)
  · obtain ⟨a, ns, k, rfl, _⟩ := h
    rfl
  · obtain ⟨a, ns, k, rfl, hS, h0, q⟩ := h
    refine ⟨_, pss_cons (ps_if (pt_cmpR op_lt (pv 1) (pe_callB call_len_seq rfl B.len PySem.boot_len (pa_cons (pv 0) pa_nil)) (nomark _)) (pss_one (ps_ret (pe_ix ix_list (pv 0) (pv 1) (fun _ _ => rfl)))) pss_nil)
      (pss_cons (ps_if (pt_cmpR (op_eqD (hu60 hr)) (pv 0) (pe_lst pa_nil) (nomark _)) (pss_one (ps_ret pe_int)) pss_nil)
      (pss_one (ps_ret (pe_op op_add (pe_op op_mul (pe_ix ix_list (pv 0) (pe_op op_mod (pv 1) (pe_callB call_len_seq rfl B.len PySem.boot_len (pa_cons (pv 0) pa_nil))) (fun _ _ => rfl)) pe_int) (pv 1))))), ?_⟩
    refine ⟨_, rfl, _, rfl, a, _, rfl, .inl hS, _, _, rfl, rfl, _, rfl, ?_⟩
    refine ite2 (fun hlt => ?_) (fun hlt => ?_)
    · have hlt : k < (ns.length : Int) := by simpa using hlt
      exact ⟨_, rfl, _, rfl, a, _, _, _, rfl, rfl, hS, atI_lt h0 hlt, q _ _ (Same.refl H)⟩
    · refine ⟨_, rfl, Nat.zero_le _, fun l hl => ?_⟩
      have S1 : Same H (upd H l (.lst [])) := same_new _ hl
      refine ⟨.lst (ns.map D.int), .lst [], .inr ⟨_, _, rfl, rfl⟩, .lst (S1.seq hS) (datsInts ns), .lst (SqL.of upd_same) .nil, (by show depDs (ns.map D.int) + 1 ≤ 50; rw [dep_ints]; decide), _, rfl, ?_⟩
      refine ite2 (fun he => ?_) (fun he => ?_)
      · exact q _ _ S1
      · have hne : ns ≠ [] := fun z => he (by subst z; rfl)
        have hpos : 0 < (ns.length : Int) := by
          have := List.length_pos_iff.mpr hne
          omega
        refine ⟨_, rfl, _, rfl, _, rfl, a, _, rfl, .inl (S1.seq hS), _, _, rfl, rfl, (by simpa using hpos), a, _, _, _, rfl, rfl, S1.seq hS, atI_lt (Int.emod_nonneg _ (by simp; omega)) (by simpa using Int.emod_lt_of_pos k hpos), _, _, rfl, rfl, .inr ⟨by decide, by decide⟩, _, rfl, _, _, rfl, rfl, q _ _ S1⟩

theorem ok_law_mixed {f fC : Addr} {fd fdC : FuncData} (B : Bn mg) (G : Df K mg "_law_mixed" s_law_mixed p_law_mixed f fd) (GC : Df K mg "_law_cell_at" s_law_cell_at p_law_cell_at fC fdC) : FnOk P w K mg base CX0 2 f fd p_law_mixed (spMixed K) := by
  have C := ok_law_cell_at (P := P) (w := w) (base := base) B GC
  refine G.F.ok sc_law_mixed (fun vs H Q E h => ?_) (fun cdv A outer s H vs Q E hr h => ?_)
  · obtain ⟨a, ns, k, m, rfl, _⟩ := h
    rfl
  · obtain ⟨a, ns, k, m, rfl, hS, h0, h1, hm, q⟩ := h
    refine ⟨_, pss_cons (ps_set (i := 3) sc_law_mixed.nd rfl (Or.inl rfl) (pe_op op_mod (pe_op op_mul (pe_op op_add (pe_op op_add (pe_call C hr rfl GC.m GC.F.kp GC.b .nil pass0 (pa_cons (pv 0) (pa_cons (pv 1) pa_nil))) (pe_op op_mul pe_int (pv 1))) pe_int) pe_int) pe_int))
      (pss_one (ps_ret (pe_op op_mod (pe_op op_mod (pe_op op_add (pe_op op_add (pe_op op_mul (pv 3) (pv 3)) (pe_op op_mul pe_int (pv 3))) (pv 1)) pe_int) (pv 2)))), ?_⟩
    refine ⟨_, rfl, _, rfl, a, ns, k, rfl, hS, h0, fun c H1 S1 => ?_⟩
    refine ⟨_, rfl, _, _, rfl, rfl, .inl ⟨by decide, by decide⟩, _, _, rfl, rfl, _, _, rfl, rfl, _, _, rfl, rfl, .inr ⟨by decide, by decide⟩, _, _, rfl, rfl, (by show (0 : Int) < 2147483647; decide), ?_⟩
    generalize hd : (c + 7919 * k + 1) * 48271 % 2147483647 = d
    have hd0 : 0 ≤ d := by rw [← hd]; exact Int.emod_nonneg _ (by decide)
    have hd1 : d < 2147483647 := by rw [← hd]; exact Int.emod_lt_of_pos _ (by decide)
    refine ⟨_, rfl, _, rfl, _, _, rfl, rfl, .inl ⟨by omega, by omega⟩, _, rfl, _, _, rfl, rfl, .inl ⟨by decide, by decide⟩, _, _, rfl, rfl, _, rfl, _, _, rfl, rfl, _, _, rfl, rfl, (by show (0 : Int) < 2147483629; decide), _, rfl, _, _, rfl, rfl, (by omega), ?_⟩
    exact q _ _ S1 (Int.emod_nonneg _ (by omega)) (Int.emod_lt_of_pos _ (by omega))
end
end Lw

namespace Lw
open PySem L2
def slotN (i : Nat) (σ : St) : Nat := match σ[i]? with
  | some (some (.int k)) => k.toNat
  | _ => 0
section
variable {P : Program} {w : World} {K : PySem.W.Frag} {mg : Str → Option Value} {base : Heap}
theorem ok_law_divisor {f : Addr} {fd : FuncData} (B : Bn mg) (G : Df K mg "_law_divisor" s_law_divisor p_law_divisor f fd) : FnOk P w K mg base CX0 1 f fd p_law_divisor spGcd := by
  refine G.F.ok sc_law_divisor (fun vs H Q E h => ?_) (fun cdv A outer s H vs Q E hr h => ?_)
  · obtain ⟨a, b, rfl, _⟩ := h
    rfl
  · obtain ⟨a, b, rfl, q⟩ := h
    refine ⟨_, pss_cons (ps_set (i := 0) sc_law_divisor.nd rfl (Or.inl rfl) (pe_callB call_abs rfl B.abs PyProof.Rows.boot_abs (pa_cons (pv 0) pa_nil)))
      (pss_cons (ps_set (i := 1) sc_law_divisor.nd rfl (Or.inl rfl) (pe_callB call_abs rfl B.abs PyProof.Rows.boot_abs (pa_cons (pv 1) pa_nil)))
      (pss_cons (ps_while PassesOwn.never (pt_cmpR op_ne (pv 1) pe_int (nomark _))
        (pss_cons (ps_set (i := 2) sc_law_divisor.nd rfl (Or.inl rfl) (pe_op op_mod (pv 0) (pv 1)))
        (pss_cons (ps_set (i := 0) sc_law_divisor.nd rfl (Or.inl rfl) (pv 1))
        (pss_one (ps_set (i := 1) sc_law_divisor.nd rfl (Or.inl rfl) (pv 2))))))
      (pss_one (ps_ret (pv 0))))), ?_⟩
    refine ⟨_, rfl, a, rfl, ?_⟩
    refine ⟨_, rfl, b, rfl, ?_⟩
    refine while_by (fun σ H' => ∃ (L S : Nat) (r : Option V), σ = [some (.int L), some (.int S), r] ∧ Nat.gcd L S = Int.gcd a b ∧ H' = H) (fun σ _ => slotN 1 σ) ⟨a.natAbs, b.natAbs, none, ?_, rfl, rfl⟩ ?_ ?_
    · show [some (V.int _), some (V.int _), none] = _
      rw [abs_nat, abs_nat]
    · rintro σ H' ⟨L, S, r, rfl, hg, rfl⟩
      refine ⟨_, rfl, rfl, _, rfl, ?_⟩
      refine ite2 (fun hne => ?_) (fun he => ?_)
      · have hS : 0 < S := by
          have : ¬ V.int (S : Int) = V.int 0 := by simpa using hne
          have : ¬ (S : Int) = 0 := fun z => this (by rw [z])
          omega
        refine ⟨_, rfl, _, rfl, _, _, rfl, rfl, (by omega), ?_⟩
        refine ⟨_, rfl, ?_⟩
        refine ⟨_, rfl, ?_⟩
        refine ⟨⟨S, L % S, _, rfl, by rw [gcd_step]; exact hg, rfl⟩, ?_⟩
        show ((L : Int) % (S : Int)).toNat < ((S : Nat) : Int).toNat
        have := Nat.mod_lt L hS
        omega
      · have hS : S = 0 := by
          have : V.int (S : Int) = V.int 0 := by simpa using he
          injection this with z
          omega
        subst hS
        refine ⟨_, rfl, ?_⟩
        rw [Nat.gcd_zero_right] at hg
        rw [hg]
        exact q
    · rintro σ H' Q1 Q2 hq ⟨v, e, h1, k, h2, h3⟩
      exact ⟨v, e, h1, k, h2, hq _ _ h3⟩

theorem ok_common_divisor {f : Addr} {fd : FuncData} (B : Bn mg) (G : Df K mg "common_divisor" s_common_divisor p_common_divisor f fd) : FnOk P w K mg base CX0 1 f fd p_common_divisor spGcd := by
  refine G.F.ok sc_common_divisor (fun vs H Q E h => ?_) (fun cdv A outer s H vs Q E hr h => ?_)
  · obtain ⟨a, b, rfl, _⟩ := h
    rfl
  · obtain ⟨a, b, rfl, q⟩ := h
    refine ⟨_, pss_cons (ps_set (i := 2) sc_common_divisor.nd rfl (Or.inl rfl) (pe_callB call_abs rfl B.abs PyProof.Rows.boot_abs (pa_cons (pv 0) pa_nil)))
      (pss_cons (ps_set (i := 3) sc_common_divisor.nd rfl (Or.inl rfl) (pe_callB call_abs rfl B.abs PyProof.Rows.boot_abs (pa_cons (pv 1) pa_nil)))
      (pss_cons (ps_while PassesOwn.never (pt_cmpR op_gt (pv 3) pe_int (nomark _))
        (pss_cons (ps_set (i := 4) sc_common_divisor.nd rfl (Or.inl rfl) (pe_op op_mod (pv 2) (pv 3)))
        (pss_cons (ps_set (i := 2) sc_common_divisor.nd rfl (Or.inl rfl) (pv 3))
        (pss_one (ps_set (i := 3) sc_common_divisor.nd rfl (Or.inl rfl) (pv 4))))))
      (pss_one (ps_ret (pv 2))))), ?_⟩
    refine ⟨_, rfl, a, rfl, ?_⟩
    refine ⟨_, rfl, b, rfl, ?_⟩
    refine while_by (fun σ H' => ∃ (L S : Nat) (r : Option V), σ = [some (.int a), some (.int b), some (.int L), some (.int S), r] ∧ Nat.gcd L S = Int.gcd a b ∧ H' = H) (fun σ _ => slotN 3 σ) ⟨a.natAbs, b.natAbs, none, ?_, rfl, rfl⟩ ?_ ?_
    · show [some (V.int _), some (V.int _), some (V.int _), some (V.int _), none] = _
      rw [abs_nat, abs_nat]
    · rintro σ H' ⟨L, S, r, rfl, hg, rfl⟩
      refine ⟨_, rfl, _, _, rfl, rfl, _, rfl, ?_⟩
      refine ite2 (fun hne => ?_) (fun he => ?_)
      · have hS : 0 < S := by
          have : (0 : Int) < (S : Int) := by simpa using hne
          omega
        refine ⟨_, rfl, _, rfl, _, _, rfl, rfl, (by omega), ?_⟩
        refine ⟨_, rfl, ?_⟩
        refine ⟨_, rfl, ?_⟩
        refine ⟨⟨S, L % S, _, rfl, by rw [gcd_step]; exact hg, rfl⟩, ?_⟩
        show ((L : Int) % (S : Int)).toNat < ((S : Nat) : Int).toNat
        have := Nat.mod_lt L hS
        omega
      · have hS : S = 0 := by
          have : ¬ (0 : Int) < (S : Int) := by simpa using he
          omega
        subst hS
        refine ⟨_, rfl, ?_⟩
        rw [Nat.gcd_zero_right] at hg
        rw [hg]
        exact q
    · rintro σ H' Q1 Q2 hq ⟨v, e, i, j, h1, h2, k, h3, h4⟩
      exact ⟨v, e, i, j, h1, h2, k, h3, hq _ _ h4⟩

theorem ok_law_frac {f fG : Addr} {fd fdG : FuncData} (B : Bn mg) (G : Df K mg "_law_frac" s_law_frac p_law_frac f fd) (GG : Df K mg "_law_divisor" s_law_divisor p_law_divisor fG fdG) : FnOk P w K mg base CX0 2 f fd p_law_frac spFrac := by
  have C := ok_law_divisor (P := P) (w := w) (base := base) B GG
  refine G.F.ok sc_law_frac (fun vs H Q E h => ?_) (fun cdv A outer s H vs Q E hr h => ?_)
  · obtain ⟨u, l, rfl, _⟩ := h
    rfl
  · obtain ⟨u, l, rfl, h0, h1, q⟩ := h
    have g0 := gcd_pos (u := u) h0
    have g1 := gcd_le (u := u) h0
    refine ⟨_, pss_cons (ps_set (i := 2) sc_law_frac.nd rfl (Or.inl rfl) (pe_call C hr rfl GG.m GG.F.kp GG.b .nil pass0 (pa_cons (pv 0) (pa_cons (pv 1) pa_nil))))
      (pss_cons (ps_if (pt_cmpR op_lt (pv 1) pe_int (nomark _)) (pss_one (ps_set (i := 2) sc_law_frac.nd rfl (Or.inl rfl) (pe_un un_neg (pv 2)))) pss_nil)
      (pss_one (ps_ret (pe_tup (pa_cons (pe_op op_fdiv (pv 0) (pv 2)) (pa_cons (pe_op op_fdiv (pv 1) (pv 2)) pa_nil)))))), ?_⟩
    refine ⟨_, rfl, _, rfl, u, l, rfl, ?_⟩
    refine ⟨_, rfl, _, _, rfl, rfl, _, rfl, ?_⟩
    refine ite2 (fun z => absurd (show l < 0 by simpa using z) (by omega)) (fun _ => ?_)
    refine ⟨_, rfl, _, rfl, _, _, rfl, rfl, ⟨by omega, by omega⟩, _, rfl, _, rfl, _, _, rfl, rfl, ⟨by omega, by omega⟩, (by show 2 ≤ sizeLine; decide), fun p hp => q p hp⟩

end
end Lw

/-! ### the weights of a spread -/
namespace Lw
open PySem L2
def kvsOf (m : List (Int × Int)) : List (Key × V) := m.map fun p => ((Sum.inl p.1 : Key), V.int p.2)
/-- x more for r -/
def addW : List (Int × Int) → Int → Int → List (Int × Int)
  | [], r, x => [(r, x)]
  | (q, v) :: t, r, x => if q = r then (q, v + x) :: t else (q, v) :: addW t r x
/-- r's weight -/
def wOf : List (Int × Int) → Int → Int
  | [], _ => 0
  | (q, v) :: t, r => if q = r then v else wOf t r
def totW (m : List (Int × Int)) : Int := (m.map (·.2)).sum
theorem totW_cons (p : Int × Int) (t : List (Int × Int)) : totW (p :: t) = p.2 + totW t := by simp [totW]
theorem addW_tot : ∀ (m : List (Int × Int)) (r x : Int), totW (addW m r x) = totW m + x
  | [], r, x => by simp [addW, totW]
  | (q, v) :: t, r, x => by
    unfold addW
    split
    · rw [totW_cons, totW_cons]; simp only; omega
    · rw [totW_cons, totW_cons, addW_tot t r x]; omega
theorem addW_keys : ∀ (m : List (Int × Int)) (r x : Int) (k : Int), k ∈ (addW m r x).map (·.1) ↔ k = r ∨ k ∈ m.map (·.1)
  | [], r, x, k => by simp [addW]
  | (q, v) :: t, r, x, k => by
    unfold addW
    split
    · rename_i e
      subst e
      simp only [List.map_cons, List.mem_cons]
      constructor
      · rintro (h | h)
        · exact .inl h
        · exact .inr (.inr h)
      · rintro (h | h | h)
        · exact .inl h
        · exact .inl h
        · exact .inr h
    · simp only [List.map_cons, List.mem_cons, addW_keys t r x k]
      constructor
      · rintro (h | h | h)
        · exact .inr (.inl h)
        · exact .inl h
        · exact .inr (.inr h)
      · rintro (h | h | h)
        · exact .inr (.inl h)
        · exact .inl h
        · exact .inr (.inr h)
theorem addW_nodup : ∀ (m : List (Int × Int)) (r x : Int), (m.map (·.1)).Nodup → ((addW m r x).map (·.1)).Nodup
  | [], r, x, _ => by simp [addW]
  | (q, v) :: t, r, x, h => by
    simp only [List.map_cons, List.nodup_cons] at h
    unfold addW
    split
    · simp only [List.map_cons, List.nodup_cons]; exact h
    · rename_i e
      simp only [List.map_cons, List.nodup_cons]
      refine ⟨fun z => ?_, addW_nodup t r x h.2⟩
      rcases (addW_keys t r x q).mp z with z | z
      · exact e z
      · exact h.1 z
theorem addW_len : ∀ (m : List (Int × Int)) (r x : Int), (addW m r x).length ≤ m.length + 1 ∧ 1 ≤ (addW m r x).length
  | [], r, x => by simp [addW]
  | (q, v) :: t, r, x => by
    unfold addW
    have := addW_len t r x
    split <;> simp <;> omega
theorem addW_mem : ∀ (m : List (Int × Int)) (r x : Int) (p : Int × Int), p ∈ addW m r x → p ∈ m ∨ (p.1 = r ∧ (p.2 = x ∨ ∃ v, (r, v) ∈ m ∧ p.2 = v + x))
  | [], r, x, p, h => by
    simp [addW] at h
    subst h
    exact .inr ⟨rfl, .inl rfl⟩
  | (q, v) :: t, r, x, p, h => by
    unfold addW at h
    split at h
    · rename_i e
      subst e
      rcases List.mem_cons.mp h with h | h
      · subst h
        exact .inr ⟨rfl, .inr ⟨v, List.mem_cons_self, rfl⟩⟩
      · exact .inl (List.mem_cons_of_mem _ h)
    · rcases List.mem_cons.mp h with h | h
      · subst h
        exact .inl List.mem_cons_self
      · rcases addW_mem t r x p h with z | ⟨z1, z2⟩
        · exact .inl (List.mem_cons_of_mem _ z)
        · refine .inr ⟨z1, z2.elim .inl fun ⟨v', a, b⟩ => .inr ⟨v', List.mem_cons_of_mem _ a, b⟩⟩
theorem kvs_val : ∀ (m : List (Int × Int)) (r : Int), (valV (kvsOf m) (Sum.inl r : Key)).getD (.int 0) = .int (wOf m r)
  | [], r => rfl
  | (q, v) :: t, r => by
    show (valV (((Sum.inl q : Key), V.int v) :: kvsOf t) (Sum.inl r : Key)).getD (.int 0) = _
    unfold wOf
    by_cases e : q = r
    · subst e
      rw [valV_pos rfl, if_pos rfl]
      rfl
    · rw [valV_neg (fun z => e (Sum.inl.inj z)), if_neg e]
      exact kvs_val t r
theorem kvs_has : ∀ (m : List (Int × Int)) (r : Int), r ∈ m.map (·.1) → valV (kvsOf m) (Sum.inl r : Key) = some (.int (wOf m r))
  | [], r, h => by simp at h
  | (q, v) :: t, r, h => by
    show valV (((Sum.inl q : Key), V.int v) :: kvsOf t) (Sum.inl r : Key) = _
    unfold wOf
    by_cases e : q = r
    · subst e
      rw [valV_pos rfl, if_pos rfl]
    · rw [valV_neg (fun z => e (Sum.inl.inj z)), if_neg e]
      refine kvs_has t r ?_
      simp only [List.map_cons, List.mem_cons] at h
      rcases h with h | h
      · exact absurd h.symm e
      · exact h
theorem kvs_put_out : ∀ (m : List (Int × Int)) (r : Int) (y : V), r ∉ m.map (·.1) → (kvsOf m).map (fun kv => if kv.1 = (Sum.inl r : Key) then (kv.1, y) else kv) = kvsOf m
  | [], _, _, _ => rfl
  | (q, v) :: t, r, y, h => by
    simp only [List.map_cons, List.mem_cons, not_or] at h
    show (if (Sum.inl q : Key) = Sum.inl r then _ else _) :: (kvsOf t).map _ = _
    rw [if_neg (fun z => h.1 (Sum.inl.inj z).symm), kvs_put_out t r y h.2]
    rfl
theorem kvs_put (m : List (Int × Int)) (r x : Int) (hn : (m.map (·.1)).Nodup) : putK (kvsOf m) (Sum.inl r : Key) (.int (wOf m r + x)) = kvsOf (addW m r x) := by
  by_cases hr : r ∈ m.map (·.1)
  · have hv := kvs_has m r hr
    have ha : ((kvsOf m).any fun kv => decide (kv.1 = (Sum.inl r : Key))) = true := by rw [valV_any, hv]; rfl
    unfold putK
    rw [if_pos ha]
    clear hv ha
    induction m with
    | nil => simp at hr
    | cons p t ih =>
      obtain ⟨q, v⟩ := p
      simp only [List.map_cons, List.nodup_cons] at hn
      by_cases e : q = r
      · subst e
        show (if (Sum.inl q : Key) = Sum.inl q then _ else _) :: (kvsOf t).map _ = _
        rw [if_pos rfl, kvs_put_out t q _ hn.1]
        unfold addW wOf
        rw [if_pos rfl, if_pos rfl]
        rfl
      · show (if (Sum.inl q : Key) = Sum.inl r then _ else _) :: (kvsOf t).map _ = _
        have hr' : r ∈ t.map (·.1) := by
          simp only [List.map_cons, List.mem_cons] at hr
          rcases hr with z | z
          · exact absurd z.symm e
          · exact z
        have ih := ih hn.2 hr'
        rw [if_neg (fun z => e (Sum.inl.inj z))]
        unfold addW
        rw [if_neg e]
        unfold wOf
        rw [if_neg e, ih]
        rfl
  · have hv : valV (kvsOf m) (Sum.inl r : Key) = none := by
      cases q : valV (kvsOf m) (Sum.inl r : Key) with
      | none => rfl
      | some y =>
        have := valV_in q
        simp [kvsOf] at this
        obtain ⟨v, hv⟩ := this
        exact absurd (List.mem_map.mpr ⟨(r, v), hv, rfl⟩) hr
    rw [putK_new _ hv]
    clear hv
    induction m with
    | nil => simp [kvsOf, addW, wOf]
    | cons p t ih =>
      obtain ⟨q, v⟩ := p
      simp only [List.map_cons, List.mem_cons, not_or, List.nodup_cons] at hn hr
      have e : ¬ q = r := fun z => hr.1 z.symm
      unfold addW wOf
      rw [if_neg e, if_neg e]
      show ((Sum.inl q : Key), V.int v) :: (kvsOf t ++ _) = ((Sum.inl q : Key), V.int v) :: kvsOf (addW t r x)
      rw [ih hn.2 hr.2]
theorem wOf_mem : ∀ (m : List (Int × Int)) (r : Int), r ∈ m.map (·.1) → (r, wOf m r) ∈ m
  | [], r, h => by simp at h
  | (q, v) :: t, r, h => by
    unfold wOf
    by_cases e : q = r
    · subst e
      rw [if_pos rfl]
      exact List.mem_cons_self
    · rw [if_neg e]
      simp only [List.map_cons, List.mem_cons] at h
      rcases h with h | h
      · exact absurd h.symm e
      · exact List.mem_cons_of_mem _ (wOf_mem t r h)
theorem wOf_sum : ∀ (m : List (Int × Int)), (m.map (·.1)).Nodup → (m.map (·.1)).map (wOf m) = m.map (·.2)
  | [], _ => rfl
  | (q, v) :: t, h => by
    simp only [List.map_cons, List.nodup_cons] at h
    have ih := wOf_sum t h.2
    simp only [List.map_cons]
    congr 1
    · unfold wOf; rw [if_pos rfl]
    · rw [← ih]
      refine List.map_congr_left fun r hr => ?_
      have hq : ¬ q = r := fun z => by subst z; exact h.1 hr
      show (if q = r then v else wOf t r) = wOf t r
      rw [if_neg hq]

/-- a spread as the law makes it: rooms rising, weights -/
structure SprOk (many : Int) (ps : List (Int × Int)) : Prop where
  ne : 1 ≤ ps.length
  few : ps.length ≤ 3
  rise : (ps.map (·.1)).Pairwise (· < ·)
  room : ∀ p ∈ ps, 0 ≤ p.1 ∧ p.1 < many
  pos : ∀ p ∈ ps, 1 ≤ p.2
  tot : totW ps ≤ 12
def pairD (W : Int) (p : Int × Int) : D := .tup [.int p.1, .tup [.int (frU p.2 W), .int (frL p.2 W)]]
def sprD (ps : List (Int × Int)) : D := .tup (ps.map (pairD (totW ps)))
theorem perm_sum {a b : List Int} (h : a.Perm b) : a.sum = b.sum := by
  induction h with
  | nil => rfl
  | cons x _ ih => simp [ih]
  | swap x y l => simp; omega
  | trans _ _ ih1 ih2 => exact ih1.trans ih2
/-- out of the weights in any order, sorted -/
theorem spr_of {many : Int} {m : List (Int × Int)} {ms : List Int} (hn : (m.map (·.1)).Nodup) (hp : ms.Perm (m.map (·.1))) (hs : ms.Pairwise (· ≤ ·)) (h1 : 1 ≤ m.length) (h3 : m.length ≤ 3)
    (hr : ∀ p ∈ m, 0 ≤ p.1 ∧ p.1 < many ∧ 1 ≤ p.2) (ht : totW m ≤ 12) : SprOk many (ms.map fun r => (r, wOf m r)) ∧ totW (ms.map fun r => (r, wOf m r)) = totW m := by
  have e1 : (ms.map fun r => (r, wOf m r)).map (·.1) = ms := by simp [Function.comp_def]
  have e2 : (ms.map fun r => (r, wOf m r)).map (·.2) = ms.map (wOf m) := by simp [Function.comp_def]
  have etot : totW (ms.map fun r => (r, wOf m r)) = totW m := by
    unfold totW
    rw [e2, perm_sum (hp.map (wOf m)), wOf_sum m hn]
  have hl := hp.length_eq
  rw [List.length_map] at hl
  have mem : ∀ p ∈ (ms.map fun r => (r, wOf m r)), p ∈ m := fun p hp' => by
    obtain ⟨r, hr', e⟩ := List.mem_map.mp hp'
    subst e
    exact wOf_mem m r (hp.mem_iff.mp hr')
  refine ⟨⟨by rw [List.length_map]; omega, by rw [List.length_map]; omega, ?_, fun p h => ⟨(hr p (mem p h)).1, (hr p (mem p h)).2.1⟩, fun p h => (hr p (mem p h)).2.2, by rw [etot]; exact ht⟩, etot⟩
  rw [e1]
  have nd : ms.Nodup := hp.nodup_iff.mpr hn
  have := hs.and nd
  exact this.imp fun ⟨a, b⟩ => by omega
end Lw
/-! ### a spread, a walk -/
namespace Lw
open PySem L2
def spSpread (K : PySem.W.Frag) : Sp := fun vs H Q _ => ∃ (a : Addr) (ns : List Int) (at' many : Int), vs = [.ref a, .int at', .int many] ∧ SqL K H a (ns.map V.int) ∧ 0 ≤ at' ∧ at' < 100000 ∧ 1 ≤ many ∧
  ∀ (ps : List (Int × Int)) (v : V) (H' : Hp), Same H H' → SprOk many ps → DatAt K H' v (sprD ps) → Q v H'
structure WlkOk (ws : List (List (Int × Int))) : Prop where
  n1 : 1 ≤ ws.length
  n8 : ws.length ≤ 8
  sp : ∀ ps ∈ ws, SprOk (ws.length : Int) ps
def wlkD (ws : List (List (Int × Int))) : D := .tup (ws.map sprD)
def spWalk (K : PySem.W.Frag) : Sp := fun vs H Q _ => ∃ (a : Addr) (ns : List Int) (at' : Int), vs = [.ref a, .int at'] ∧ SqL K H a (ns.map V.int) ∧ 0 ≤ at' ∧ at' < 10000 ∧
  ∀ (ws : List (List (Int × Int))) (v : V) (H' : Hp), Same H H' → WlkOk ws → DatAt K H' v (wlkD ws) → Q v H'
/-- the weights between two turns -/
structure Wts (many : Int) (i : Nat) (m : List (Int × Int)) : Prop where
  nd : (m.map (·.1)).Nodup
  len : m.length ≤ i
  ne : 1 ≤ i → 1 ≤ m.length
  ok : ∀ p ∈ m, 0 ≤ p.1 ∧ p.1 < many ∧ 1 ≤ p.2
  tot : totW m ≤ 4 * i
theorem Wts.start (many : Int) : Wts many 0 [] := ⟨by simp, Nat.le_refl _, by omega, by simp, by simp [totW]⟩
theorem Wts.more {many : Int} {i : Nat} {m : List (Int × Int)} {r x : Int} (h : Wts many i m) (h0 : 0 ≤ r) (h1 : r < many) (hx : 1 ≤ x) (hx4 : x ≤ 4) : Wts many (i + 1) (addW m r x) := by
  have hl := addW_len m r x
  refine ⟨addW_nodup m r x h.nd, by have := h.len; omega, fun _ => hl.2, fun p hp => ?_, by rw [addW_tot]; have := h.tot; omega⟩
  rcases addW_mem m r x p hp with z | ⟨z1, z2⟩
  · exact h.ok p z
  · rw [z1]
    refine ⟨h0, h1, ?_⟩
    rcases z2 with z | ⟨v, a, b⟩
    · omega
    · have := (h.ok _ a).2.2
      have : 1 ≤ v := this
      omega
theorem noL_spr (ps : List (Int × Int)) : noL (sprD ps) = true := by
  unfold sprD
  simp only [noL]
  refine noLs_all fun i d h => ?_
  rw [List.getElem?_map] at h
  cases e : ps[i]? with
  | none => rw [e] at h; cases h
  | some p => rw [e] at h; cases h; rfl
theorem dats_eq {ds : List D} {n : Nat} {f : Nat → Option D} (hl : ds.length = n) (h : ∀ (j : Nat) d, ds[j]? = some d → f j = some d) (es : List D) (he : es.length = n) (hf : ∀ j, j < n → es[j]? = f j) : ds = es := by
  apply List.ext_getElem?
  intro j
  by_cases hj : j < n
  · rw [hf j hj]
    have := List.getElem?_eq_getElem (l := ds) (i := j) (by omega)
    rw [h j _ this, this]
  · rw [List.getElem?_eq_none (by omega), List.getElem?_eq_none (by omega)]
theorem sum_vals (m : List (Int × Int)) : (kvsOf m).map (·.2) = (m.map (·.2)).map V.int := by simp [kvsOf, Function.comp_def]
theorem keys_vals (m : List (Int × Int)) : (kvsOf m).map (fun kv => kV kv.1) = (m.map (·.1)).map V.int := by simp [kvsOf, Function.comp_def, kV]
section
variable {P : Program} {w : World} {K : PySem.W.Frag} {mg : Str → Option Value} {base : Heap}
theorem ok_law_spread {f fC fM fG fF : Addr} {fd fdC fdM fdG fdF : FuncData} (B : Bn mg) (G : Df K mg "_law_spread" s_law_spread p_law_spread f fd) (GC : Df K mg "_law_cell_at" s_law_cell_at p_law_cell_at fC fdC)
    (GM : Df K mg "_law_mixed" s_law_mixed p_law_mixed fM fdM) (GG : Df K mg "_law_divisor" s_law_divisor p_law_divisor fG fdG) (GF : Df K mg "_law_frac" s_law_frac p_law_frac fF fdF) : FnOk P w K mg base CX0 3 f fd p_law_spread (spSpread K) := by
  have M := ok_law_mixed (P := P) (w := w) (base := base) B GM GC
  have R := ok_law_frac (P := P) (w := w) (base := base) B GF GG
  refine G.F.ok sc_law_spread (fun vs H Q E h => ?_) (fun cdv A outer s H vs Q E hr h => ?_)
  · obtain ⟨a, ns, k, m, rfl, _⟩ := h
    rfl
  · obtain ⟨a, ns, at', many, rfl, hS, h0, h1, hm, q⟩ := h
    have hu := hu_of hr
    refine ⟨_, pss_cons (ps_set (i := 3) sc_law_spread.nd rfl (Or.inr rfl) pe_dnewK)
      (pss_cons (ps_for PassesOwn.never rfl (pi_range1 rfl B.range (pa_cons (pe_op op_add pe_int (pe_call M hr rfl GM.m GM.F.kp GM.b .nil pass0 (pa_cons (pv 0) (pa_cons (pv 1) (pa_cons pe_int pa_nil))))) pa_nil)) (pg_name (i := 4) sc_law_spread.nd rfl (Or.inl rfl))
        (pss_cons (ps_set (i := 5) sc_law_spread.nd rfl (Or.inl rfl) (pe_call M hr rfl GM.m GM.F.kp GM.b .nil pass0 (pa_cons (pv 0) (pa_cons (pe_op op_add (pe_op op_add (pv 1) pe_int) (pe_op op_mul pe_int (pv 4))) (pa_cons (pv 2) pa_nil)))))
        (pss_one (ps_dput hu (pv 3) (pv 5) (pe_op op_add (pe_op op_add (pe_dget2 hu (pv 3) (pv 5) pe_int ⟨rfl, rfl, rfl, rfl⟩) pe_int) (pe_call M hr rfl GM.m GM.F.kp GM.b .nil pass0 (pa_cons (pv 0) (pa_cons (pe_op op_add (pe_op op_add (pv 1) pe_int) (pe_op op_mul pe_int (pv 4))) (pa_cons pe_int pa_nil))))) rfl))))
      (pss_cons (ps_set (i := 6) sc_law_spread.nd rfl (Or.inr rfl) (pe_callB (call_sum_view rfl) rfl B.sum PyProof.Rows.boot_sum (pa_cons (pe_bm0 PySem.F.plainAttrs_dict PySem.F.slot_dict_values PySem.F.type_dict_values mt_values (pv 3)) pa_nil)))
      (pss_one (ps_ret (pe_callTy call_tuple_of rfl B.tuple PyProof.Rows.boot_tuple (pa_cons (pe_comp (NB := ["_law_room", "_law_weights", "_law_whole"]) (n := 1) (capN := [3, 6]) (by exact ⟨rfl, by decide, rfl, by decide, ⟨rfl, rfl, trivial⟩, rfl, rfl, rfl, rfl, rfl⟩) rfl (gk_name (by decide))
        (pi_list (pe_callB call_sorted_ints rfl B.sorted PyProof.Rows.boot_sorted (pa_cons (pe_callTy (call_list_dict rfl) rfl B.list PyProof.Rows.boot_list (pa_cons (pv 3) pa_nil)) pa_nil)))
        (fun _ _ _ _ => pg_name (i := 0) (show (["_law_room", "_law_weights", "_law_whole"] : List Str).Nodup by decide +kernel) rfl (Or.inl rfl)) (fun _ _ _ _ => pts_nil)
        (fun _ _ _ _ => pe_tup (pa_cons (pv 0) (pa_cons (pe_call R hr rfl GF.m GF.F.kp GF.b .nil pass0 (pa_cons (pe_dget hu (pv 1) (pv 0) (fun _ _ => rfl)) (pa_cons (pv 2) pa_nil))) pa_nil)))) pa_nil)))))), ?_⟩
    -- weights = {}
    intro d hd
    have S0 : Same H (upd H d (.dK [])) := same_new _ hd
    -- range(1 + mixed)
    refine ⟨_, rfl, _, rfl, a, ns, at', 3, rfl, S0.seq hS, h0, by omega, by decide, fun i H1 S1 i0 i3 => ?_⟩
    refine ⟨_, _, rfl, rfl, 1 + i, rfl, by omega, by omega, ?_⟩
    have S1' : Same H H1 := S0.trans S1
    have hd1 : H1 d = some (.dK []) := S1 d _ upd_same
    refine for_range (lo := 0) (n := (1 + i).toNat) (fun k σ H2 => ∃ (m : List (Int × Int)) (v4 v5 : Option V), σ = [some (.ref a), some (.int at'), some (.int many), some (.ref d), v4, v5, none] ∧ Same H H2 ∧ H2 d = some (.dK (kvsOf m)) ∧ Wts many k m)
      ⟨[], none, none, rfl, S1', hd1, Wts.start many⟩ ?_ ?_
    · rintro k σ H2 hk ⟨m, v4, v5, rfl, S2, hd2, hW⟩
      have hk3 : (k : Int) < 3 := by omega
      -- room
      refine ⟨_, rfl, _, rfl, _, _, rfl, rfl, _, rfl, _, _, rfl, rfl, .inl ⟨by decide, by decide⟩, _, _, rfl, rfl, _, rfl, a, ns, _, many, rfl, S2.seq hS, by omega, by omega, hm, fun r H3 S3 r0 r1 => ?_⟩
      have hd3 := S3 d _ hd2
      -- weights[room] = ..
      refine ⟨_, rfl, d, rfl, .inl ⟨_, .inl hd3⟩, _, rfl, ?_⟩
      refine ⟨_, DGet.k (k := Sum.inl r) hd3, ?_⟩
      have hv : (valV (kvsOf m) (Sum.inl r : Key)).getD (V.int 0) = V.int (wOf m r) := kvs_val m r
      refine ⟨wOf m r, 1, hv, rfl, ?_⟩
      refine ⟨_, rfl, _, rfl, _, _, rfl, rfl, _, rfl, _, _, rfl, rfl, .inl ⟨by decide, by decide⟩, _, _, rfl, rfl, a, ns, _, 4, rfl, (S2.trans S3).seq hS, by omega, by omega, by decide, fun x H4 S4 x0 x4 => ?_⟩
      have hd4 := S4 d _ hd3
      refine ⟨_, _, rfl, rfl, _, rfl, _, rfl, d, _, rfl, DPut.k (k := Sum.inl r) hd4 ?_, ?_⟩
      · have := hW.len
        refine small1000 ?_
        rw [show (kvsOf m).length = m.length by simp [kvsOf]]
        omega
      · have e : wOf m r + 1 + x = wOf m r + (1 + x) := by omega
        refine ⟨addW m r (1 + x), _, _, rfl, ?_, ?_, hW.more r0 r1 (by omega) (by omega)⟩
        · exact ((S2.trans S3).trans S4).fresh_upd hd _
        · rw [upd_same]
          show some (HO.dK (putK (kvsOf m) (Sum.inl r : Key) (V.int (wOf m r + 1 + x)))) = _
          rw [e, kvs_put m r (1 + x) hW.nd]
    · rintro σ H2 ⟨m, v4, v5, rfl, S2, hd2, hW⟩
      -- whole
      refine ⟨_, rfl, .inr (.inr (.inl ⟨rfl, .inl ⟨_, hd2⟩⟩)), d, _, rfl, rfl, hd2, fun v hv => ?_⟩
      have S3 : Same H2 (upd H2 v (viewO v d)) := same_new _ hv
      refine ⟨v, d, _, _, rfl, upd_same, S3 d _ hd2, sum_vals m, ?_⟩
      -- sorted(list(weights))
      refine ⟨_, rfl, d, _, rfl, S3 d _ hd2, fun l hl => ?_⟩
      have S4 := same_new (H := upd H2 v (viewO v d)) (.lst ((kvsOf m).map fun kv => kV kv.1)) hl
      refine ⟨l, m.map (·.1), rfl, SqL.of (by rw [upd_same, keys_vals]), (by rw [List.length_map]; have := hW.len; omega), fun ms l2 hp hs hl2 => ?_⟩
      have S5 := same_new (.lst (ms.map V.int)) hl2
      refine ⟨l2, rfl, ⟨_, SqL.of upd_same⟩, fun p hp' => ?_⟩
      have hd5 := S5 d _ (S4 d _ (S3 d _ hd2))
      have hms : ms.length = m.length := by rw [hp.length_eq, List.length_map]
      have h13 := hW.len
      have h11 := hW.ne (by omega)
      obtain ⟨hspr, htot⟩ := spr_of (many := many) hW.nd hp hs h11 (by omega) hW.ok (by have := hW.tot; omega)
      refine comp_datL (fun j dd => ∃ r, ms[j]? = some r ∧ dd = pairD (totW m) (r, wOf m r)) hp' (SqL.of upd_same) ?_ ?_ ?_ ?_
      · rw [List.length_map]
        exact Nat.le_of_lt (small1000 (by omega))
      · rintro j dd ⟨r, _, rfl⟩
        rfl
      · intro j x H6 RR hx S6 k
        rw [List.getElem?_map] at hx
        cases e : ms[j]? with
        | none => rw [e] at hx; cases hx
        | some r =>
          rw [e] at hx
          cases hx
          have hr : r ∈ m.map (·.1) := hp.mem_iff.mp (List.mem_of_getElem? e)
          have hmem := wOf_mem m r hr
          have hok := hW.ok _ hmem
          have hW1 : 1 ≤ wOf m r := hok.2.2
          have hTpos : 0 < totW m := by
            have : ∀ (l : List (Int × Int)), (∀ p ∈ l, 1 ≤ p.2) → 1 ≤ l.length → 0 < totW l := by
              intro l
              induction l with
              | nil => intro _ h; simp at h
              | cons p t ih =>
                intro hp _
                rw [totW_cons]
                have h1 := hp p List.mem_cons_self
                cases t with
                | nil => simp [totW]; omega
                | cons q t' => have := ih (fun p' hp'' => hp p' (List.mem_cons_of_mem _ hp'')) (by simp); omega
            exact this m (fun p hp'' => (hW.ok p hp'').2.2) h11
          have hT12 := hW.tot
          refine ⟨_, rfl, _, rfl, _, rfl, d, _, rfl, (by rw [← kvs_has m r hr]; exact DGet.k (k := Sum.inl r) (S6 d _ hd5)), _, rfl, wOf m r, totW m, rfl, hTpos, by omega, fun t ht => ?_⟩
          refine ⟨(by show 2 ≤ sizeLine; decide), fun t2 ht2 => ?_⟩
          have A1 := same_new (H := H6) (.tup [.int (frU (wOf m r) (totW m)), .int (frL (wOf m r) (totW m))]) ht
          have A2 := same_new (.tup [V.int r, V.ref t]) ht2
          refine k _ _ (pairD (totW m) (r, wOf m r)) (A1.trans A2) ?_ ⟨r, e, rfl⟩
          exact .tup (SqT.of upd_same) (.cons (.int r) (.cons (.tup (A2.seqT (SqT.of upd_same)) (.cons (.int _) (.cons (.int _) .nil))) .nil))
      · intro ys H6 ds S6 hp6 hl6 hds hdd
        have eds : ds = (ms.map fun r => (r, wOf m r)).map (pairD (totW m)) := by
          rw [List.length_map] at hl6
          refine dats_eq (n := ms.length) (f := fun j => (ms[j]?).map fun r => pairD (totW m) (r, wOf m r)) hl6 (fun j dd h => ?_) _ (by simp) fun j hj => by simp [List.getElem?_map, Function.comp_def]
          obtain ⟨r, e1, e2⟩ := hds j dd h
          rw [e1, e2]
          rfl
        refine ⟨p, ys, rfl, .inl ⟨SqL.of hp6, fun t ht => ?_⟩⟩
        have A1 := same_new (.tup ys) ht
        refine q (ms.map fun r => (r, wOf m r)) _ _ ((((((S2.trans S3).trans S4).trans S5).trans S6)).trans A1) hspr ?_
        unfold sprD
        rw [htot, ← eds]
        exact .tup (SqT.of upd_same) (hdd.same A1)

theorem ok_law_walk {f fC fM fG fF fS : Addr} {fd fdC fdM fdG fdF fdS : FuncData} (B : Bn mg) (G : Df K mg "_law_walk" s_law_walk p_law_walk f fd) (GS : Df K mg "_law_spread" s_law_spread p_law_spread fS fdS) (GC : Df K mg "_law_cell_at" s_law_cell_at p_law_cell_at fC fdC)
    (GM : Df K mg "_law_mixed" s_law_mixed p_law_mixed fM fdM) (GG : Df K mg "_law_divisor" s_law_divisor p_law_divisor fG fdG) (GF : Df K mg "_law_frac" s_law_frac p_law_frac fF fdF) : FnOk P w K mg base CX0 4 f fd p_law_walk (spWalk K) := by
  have M := ok_law_mixed (P := P) (w := w) (base := base) B GM GC
  have R := ok_law_spread (P := P) (w := w) (base := base) B GS GC GM GG GF
  refine G.F.ok sc_law_walk (fun vs H Q E h => ?_) (fun cdv A outer s H vs Q E hr h => ?_)
  · obtain ⟨a, ns, k, rfl, _⟩ := h
    rfl
  · obtain ⟨a, ns, at', rfl, hS, h0, h1, q⟩ := h
    have hr2 : Room 2 _ := hr.mono (by decide)
    refine ⟨_, pss_cons (ps_set (i := 2) sc_law_walk.nd rfl (Or.inr rfl) (pe_op op_add pe_int (pe_call M hr2 rfl GM.m GM.F.kp GM.b .nil pass0 (pa_cons (pv 0) (pa_cons (pv 1) (pa_cons pe_int pa_nil))))))
      (pss_cons (ps_if (pt_cmpR op_eq (pe_call M hr2 rfl GM.m GM.F.kp GM.b .nil pass0 (pa_cons (pv 0) (pa_cons (pe_op op_add (pv 1) pe_int) (pa_cons pe_int pa_nil)))) pe_int (nomark _)) (pss_one (ps_set (i := 2) sc_law_walk.nd rfl (Or.inr rfl) pe_int)) pss_nil)
      (pss_one (ps_ret (pe_callTy call_tuple_of rfl B.tuple PyProof.Rows.boot_tuple (pa_cons (pe_comp (NB := ["_law_k", "_law_at", "_law_many", "_law_script"]) (n := 1) (capN := [1, 2, 0]) (by exact ⟨rfl, by decide, rfl, by decide, ⟨rfl, rfl, rfl, trivial⟩, rfl, rfl, rfl, rfl, rfl⟩) rfl (gk_name (by decide))
        (pi_range1 rfl B.range (pa_cons (pv 2) pa_nil))
        (fun _ _ _ _ => pg_name (i := 0) (show (["_law_k", "_law_at", "_law_many", "_law_script"] : List Str).Nodup by decide +kernel) rfl (Or.inl rfl)) (fun _ _ _ _ => pts_nil)
        (fun _ _ _ _ => pe_call R hr rfl GS.m GS.F.kp GS.b .nil pass0 (pa_cons (pv 3) (pa_cons (pe_op op_add (pe_op op_add (pv 1) pe_int) (pe_op op_mul pe_int (pv 0))) (pa_cons (pv 2) pa_nil))))) pa_nil))))), ?_⟩
    refine ⟨_, rfl, _, rfl, a, ns, at', 5, rfl, hS, h0, by omega, by decide, fun i H1 S1 i0 i5 => ?_⟩
    refine ⟨_, _, rfl, rfl, ?_⟩
    refine ⟨_, rfl, _, rfl, _, _, rfl, rfl, a, ns, _, 6, rfl, S1.seq hS, by omega, by omega, by decide, fun j H2 S2 j0 j6 => ?_⟩
    refine ⟨rfl, _, rfl, ?_⟩
    have fin : ∀ many : Int, 1 ≤ many → many ≤ 8 → tRet (tCB (fun xs H Q => ∃ p ys, xs = [.ref p] ∧ ((SqL K H p ys ∧ ∀ l, H l = none → Q (.ref l) (upd H l (.tup ys))) ∨ (SqT K H p ys ∧ Q (.ref p) H)))
        (tCons (tComp (iRng1 (tCons (tVar 2) tNil)) 1 [1, 2, 0] (gName 0) tYes (tCall (spSpread K) [] E0 (tCons (tVar 3) (tCons (tOp (rI0 fun i j => .int (i + j)) (tOp (rI0 fun i j => .int (i + j)) (tVar 1) (tC (.int 2))) (tOp (rI CMul fun i j => .int (i * j)) (tC (.int 7)) (tVar 0))) (tCons (tVar 2) tNil))))) tNil))
        { nx := fun _ H' => Q .non H', rt := Q } [some (.ref a), some (.int at'), some (.int many)] H2 := by
      intro many hm1 hm8
      refine ⟨_, rfl, many, rfl, by omega, by omega, fun p hp => ?_⟩
      refine comp_datR (K := K) (fun _ dd => ∃ ps, dd = sprD ps ∧ SprOk many ps) hp ?_ ?_ ?_ ?_
      · exact Nat.le_of_lt (small1000 (by omega))
      · rintro j dd ⟨ps, rfl, _⟩
        exact noL_spr ps
      · intro k H3 RR hk S3 kk
        refine ⟨_, rfl, _, rfl, _, _, rfl, rfl, _, rfl, _, _, rfl, rfl, .inl ⟨by decide, by decide⟩, _, _, rfl, rfl, _, rfl, a, ns, _, many, rfl, ((S1.trans S2).trans S3).seq hS, by omega, by omega, hm1, fun ps v H4 S4 hps hv => ?_⟩
        exact kk v H4 (sprD ps) S4 hv ⟨ps, rfl, hps⟩
      · intro ys H3 ds S3 hp3 hl3 hds hdd
        refine ⟨p, ys, rfl, .inl ⟨SqL.of hp3, fun t ht => ?_⟩⟩
        have A1 := same_new (.tup ys) ht
        have ex : ∀ (l : List D), (∀ dd ∈ l, ∃ ps, dd = sprD ps ∧ SprOk many ps) → ∃ ws : List (List (Int × Int)), l = ws.map sprD ∧ ∀ ps ∈ ws, SprOk many ps := by
          intro l
          induction l with
          | nil => intro _; exact ⟨[], rfl, by simp⟩
          | cons x t ih =>
            intro h
            obtain ⟨ps, e, hp'⟩ := h x List.mem_cons_self
            obtain ⟨ws, e2, h2⟩ := ih fun y hy => h y (List.mem_cons_of_mem _ hy)
            refine ⟨ps :: ws, by rw [e, e2]; rfl, fun y hy => ?_⟩
            rcases List.mem_cons.mp hy with rfl | hy
            · exact hp'
            · exact h2 y hy
        obtain ⟨ws, e, hws⟩ := ex ds fun dd hdd' => by
          obtain ⟨j, hj⟩ := List.mem_iff_getElem?.mp hdd'
          exact hds j dd hj
        have hlen : ws.length = many.toNat := by
          have := congrArg List.length e
          rw [List.length_map] at this
          omega
        refine q ws _ _ (((S1.trans S2).trans S3).trans A1) ⟨by omega, by omega, fun ps hps => ?_⟩ ?_
        · have : (ws.length : Int) = many := by omega
          rw [this]
          exact hws ps hps
        · unfold wlkD
          rw [← e]
          exact .tup (SqT.of upd_same) (hdd.same A1)
    refine ite2 (fun _ => ?_) (fun _ => ?_)
    · exact fin 8 (by decide) (by decide)
    · exact fin (1 + i) (by omega) (by omega)
end
end Lw

/-! ### what is a fraction, a pair, a spread, a walk -/
namespace Lw
open PySem L2
def isInt : D → Bool
  | .int _ => true
  | _ => false
def fracD (x : Int × Int) : D := .tup [.int x.1, .int x.2]

section
variable {K : PySem.W.Frag}
/-- isinstance's answers for data -/
def isTy (n : String) (d : D) : Bool := tyD d == n || (n == "int" && tyD d == "bool")
theorem kit_int (d : D) : PySem.W.kitOne K (.type (tyD d)) (.type "int") = some (match d with | .int _ => true | .bl _ => true | _ => false) := by cases d <;> kernel_rfl
theorem kit_bool (d : D) : PySem.W.kitOne K (.type (tyD d)) (.type "bool") = some (match d with | .bl _ => true | _ => false) := by cases d <;> kernel_rfl
theorem kit_tuple (d : D) : PySem.W.kitOne K (.type (tyD d)) (.type "tuple") = some (match d with | .tup _ => true | _ => false) := by cases d <;> kernel_rfl
theorem kit_list (d : D) : PySem.W.kitOne K (.type (tyD d)) (.type "list") = some (match d with | .lst _ => true | _ => false) := by cases d <;> kernel_rfl
end
def spWhole (K : PySem.W.Frag) : Sp := fun vs H Q _ => ∃ v d, vs = [v] ∧ DatAt K H v d ∧ Q (.bl (isInt d)) H
section
variable {P : Program} {w : World} {K : PySem.W.Frag} {mg : Str → Option Value} {base : Heap}
theorem ok_is_whole {f : Addr} {fd : FuncData} (B : Bn mg) (G : Df K mg "is_whole" s_is_whole p_is_whole f fd) : FnOk P w K mg base CX0 1 f fd p_is_whole (spWhole K) := by
  refine G.F.ok sc_is_whole (fun vs H Q E h => ?_) (fun cdv A outer s H vs Q E hr h => ?_)
  · obtain ⟨v, d, rfl, _⟩ := h
    rfl
  · obtain ⟨v, d, rfl, hv, q⟩ := h
    refine ⟨_, pss_one (ps_ret (pe_and (pe_callB call_isD rfl B.isinstance PyProof.Rows.boot_isinstance (pa_cons (pv 0) (pa_cons (pe_bltn (v := .ty "int") rfl B.int PyProof.Rows.boot_int rfl) pa_nil)))
      (pe_one (pe_not (pe_callB call_isD rfl B.isinstance PyProof.Rows.boot_isinstance (pa_cons (pv 0) (pa_cons (pe_bltn (v := .ty "bool") rfl B.bool PyProof.Rows.boot_bool rfl) pa_nil))))))), ?_⟩
    refine ⟨_, rfl, v, _, d, _, rfl, hv, kit_int d, _, rfl, ?_⟩
    cases d with
    | int i => exact iteT ⟨_, rfl, v, _, _, _, rfl, hv, kit_bool _, _, rfl, q⟩
    | bl b => exact iteT ⟨_, rfl, v, _, _, _, rfl, hv, kit_bool _, _, rfl, q⟩
    | non => exact iteF q
    | str x => exact iteF q
    | tup xs => exact iteF q
    | lst xs => exact iteF q
theorem decT {c A B : Prop} [Decidable c] (h : c) (a : A) : if decide c = true then A else B := by rw [if_pos (decide_eq_true h)]; exact a
theorem decF {c A B : Prop} [Decidable c] (h : ¬ c) (b : B) : if decide c = true then A else B := by rw [if_neg (by rw [decide_eq_false h]; exact Bool.false_ne_true)]; exact b
theorem ndF {c A B : Prop} [Decidable c] (h : c) (b : B) : if (!decide c) = true then A else B := by rw [decide_eq_true h]; exact iteF b
theorem dats2 {K : PySem.W.Frag} {H : Hp} : ∀ {vs : List V} {ds : List D}, DatsAt K H vs ds → ds.length = 2 → ∃ v0 v1 d0 d1, vs = [v0, v1] ∧ ds = [d0, d1] ∧ DatAt K H v0 d0 ∧ DatAt K H v1 d1
  | _, _, .nil, h => by simp at h
  | _, _, .cons _ .nil, h => by simp at h
  | _, _, .cons r0 (.cons r1 .nil), _ => ⟨_, _, _, _, rfl, rfl, r0, r1⟩
  | _, _, .cons _ (.cons _ (.cons _ _)), h => by simp at h
end
end Lw

namespace Lw
open PySem L2
structure Cst (K : PySem.W.Frag) (mg : Str → Option Value) (aN aO : Addr) (t8 : Tok) : Prop where
  mN : mg "NOUGHT" = some (.ref aN)
  sN : ∀ H, SqT K H aN [.int 0, .int 1]
  mO : mg "ONE" = some (.ref aO)
  sO : ∀ H, SqT K H aO [.int 1, .int 1]
  m8 : mg "MOST_ROOMS" = some (.int 8 t8)
theorem datF {K : PySem.W.Frag} {H : Hp} {v : V} {x : Int × Int} (h : DatAt K H v (fracD x)) : ∃ a, v = .ref a ∧ SqT K H a [.int x.1, .int x.2] := by
  cases h with
  | @tup a vs ds h r =>
    cases r with
    | cons r0 r =>
      cases r with
      | cons r1 r =>
        cases r
        cases r0
        cases r1
        exact ⟨a, rfl, h⟩
theorem datF_mk {K : PySem.W.Frag} {H : Hp} {a : Addr} {x : Int × Int} (h : SqT K H a [.int x.1, .int x.2]) : DatAt K H (.ref a) (fracD x) := .tup h (.cons (.int _) (.cons (.int _) .nil))
section
variable {P : Program} {w : World} {K : PySem.W.Frag} {mg : Str → Option Value} {base : Heap}


end
end Lw

namespace Lw
open PySem L2
theorem frL_pos {u l : Int} (h : 0 < l) : 0 < frL u l ∧ frL u l ≤ l := by
  have g0 : (0 : Int) < (Int.gcd u l : Int) := by have := gcd_pos (u := u) h; omega
  have hd : (Int.gcd u l : Int) ∣ l := Int.gcd_dvd_right ..
  unfold frL
  constructor
  · exact Int.ediv_pos_of_pos_of_dvd h (Int.le_of_lt g0) hd
  · exact Int.ediv_le_self _ (Int.le_of_lt h)
/-- a few small fractions -/
structure SmL (fs : List (Int × Int)) : Prop where
  few : fs.length ≤ 4
  ok : ∀ x ∈ fs, 0 < x.2 ∧ x.2 ≤ 100 ∧ x.1.natAbs ≤ 100
theorem dat_tup {K : PySem.W.Frag} {H : Hp} {v : V} {ds : List D} (h : DatAt K H v (.tup ds)) : ∃ a vs, v = .ref a ∧ SqT K H a vs ∧ DatsAt K H vs ds := by
  cases h with
  | tup h r => exact ⟨_, _, rfl, h, r⟩
theorem dat_int {K : PySem.W.Frag} {H : Hp} {v : V} {i : Int} (h : DatAt K H v (.int i)) : v = .int i := by
  cases h
  rfl
theorem dats_bl {K : PySem.W.Frag} {H : Hp} : ∀ {vs : List V} {bs : List Bool}, DatsAt K H vs (bs.map D.bl) → vs = bs.map V.bl
  | _, [], .nil => rfl
  | _, b :: bs, .cons h r => by
    cases h
    rw [dats_bl r]
    rfl
section
variable {P : Program} {w : World} {K : PySem.W.Frag} {mg : Str → Option Value} {base : Heap} {aN aO : Addr} {t8 : Tok}

end
end Lw

namespace Lw
open PySem L2
/-- the small fractions of a program: its defs from checked down -/
structure Prg (K : PySem.W.Frag) (mg : Str → Option Value) (aN aO : Addr) (t8 : Tok) (fW fG fR fF fP fT fL fD fS : Addr) (fdW fdG fdR fdF fdP fdT fdL fdD fdS : FuncData) : Prop where
  B : Bn mg
  C : Cst K mg aN aO t8
  GW : Df K mg "is_whole" s_is_whole p_is_whole fW fdW
  GG : Df K mg "common_divisor" s_common_divisor p_common_divisor fG fdG
  GR : Df K mg "is_room" s_is_room p_is_room fR fdR
  GF : Df K mg "is_fraction" s_is_fraction p_is_fraction fF fdF
  GP : Df K mg "is_pair" s_is_pair p_is_pair fP fdP
  GT : Df K mg "total" s_total p_total fT fdT
  GL : Df K mg "plus" s_plus p_plus fL fdL
  GD : Df K mg "reduced" s_reduced p_reduced fD fdD
  GS : Df K mg "is_spread" s_is_spread p_is_spread fS fdS
section
variable {P : Program} {w : World} {K : PySem.W.Frag} {mg : Str → Option Value} {base : Heap} {aN aO : Addr} {t8 : Tok} {fW fG fR fF fP fT fL fD fS : Addr} {fdW fdG fdR fdF fdP fdT fdL fdD fdS : FuncData}
end
end Lw

namespace Lw
open PySem L2
theorem totW_ge : ∀ (ps : List (Int × Int)), (∀ p ∈ ps, 1 ≤ p.2) → ∀ p ∈ ps, p.2 ≤ totW ps
  | [], _, p, hp => by cases hp
  | q :: t, h, p, hp => by
    have nn : ∀ l : List (Int × Int), (∀ p ∈ l, 1 ≤ p.2) → 0 ≤ totW l := by
      intro l
      induction l with
      | nil => intro _; simp [totW]
      | cons x r ih => intro h; rw [totW_cons]; have := h x List.mem_cons_self; have := ih fun y hy => h y (List.mem_cons_of_mem _ hy); omega
    rw [totW_cons]
    have h0 := h q List.mem_cons_self
    have h1 := nn t fun y hy => h y (List.mem_cons_of_mem _ hy)
    rcases List.mem_cons.mp hp with rfl | hp
    · omega
    · have := totW_ge t (fun y hy => h y (List.mem_cons_of_mem _ hy)) p hp
      omega
end Lw

namespace Lw
open PySem L2
section
variable {P : Program} {w : World} {K : PySem.W.Frag} {mg : Str → Option Value} {base : Heap}
end
end Lw

namespace Lw
/-! ### fractions as numbers -/
theorem rat_num {u l : Int} (h : l ≠ 0) : ((u : Rat) / (l : Rat)).num = l.sign * u / (Int.gcd u l : Int) := by
  rw [← Rat.divInt_eq_div, Rat.num_divInt, Int.gcd_comm]
theorem rat_den {u l : Int} (h : l ≠ 0) : (((u : Rat) / (l : Rat)).den : Int) = l.natAbs / (Int.gcd u l : Int) := by
  rw [← Rat.divInt_eq_div, Rat.den_divInt, if_neg h, Int.gcd_comm]
  rfl
theorem rat_self (q : Rat) : ((q.num : Rat) / ((q.den : Int) : Rat)) = q := by
  rw [← Rat.divInt_eq_div, Rat.num_divInt_den]
theorem rat_den_ne (q : Rat) : ((q.den : Int) : Rat) ≠ 0 := by
  have h : (q.den : Int) ≠ 0 := by have := q.den_nz; omega
  intro z
  exact h (by exact_mod_cast z)
def sumN : Nat → (Nat → Rat) → Rat
  | 0, _ => 0
  | n + 1, f => sumN n f + f n
theorem sumN_congr {n : Nat} {f g : Nat → Rat} (h : ∀ i, i < n → f i = g i) : sumN n f = sumN n g := by
  induction n with
  | zero => rfl
  | succ n ih => simp only [sumN]; rw [ih fun i hi => h i (by omega), h n (by omega)]
theorem sumN_add (n : Nat) (f g : Nat → Rat) : sumN n (fun i => f i + g i) = sumN n f + sumN n g := by
  induction n with
  | zero => simp [sumN, Rat.add_zero]
  | succ n ih => simp only [sumN]; rw [ih]; grind
theorem sumN_zero (n : Nat) : sumN n (fun _ => 0) = 0 := by
  induction n with
  | zero => rfl
  | succ n ih => simp only [sumN]; rw [ih]; exact Rat.add_zero 0
/-- only at j -/
theorem sumN_at {n : Nat} {j : Nat} (hj : j < n) (c : Rat) (f : Nat → Rat) : sumN n (fun i => if i = j then c * f i else 0) = c * f j := by
  induction n with
  | zero => omega
  | succ n ih =>
    simp only [sumN]
    by_cases e : j = n
    · subst e
      rw [if_pos rfl, sumN_congr (g := fun _ => 0) fun i hi => if_neg (by omega), sumN_zero]
      grind
    · rw [ih (by omega), if_neg (fun z => e z.symm)]
      grind

/-! ### sizes -/
def Sm (k : Nat) (q : Rat) : Prop := q.num.natAbs < 2 ^ k ∧ q.den < 2 ^ k
theorem bd_mul {a b : Int} {m n : Nat} (h1 : a.natAbs < 2 ^ m) (h2 : b.natAbs < 2 ^ n) : (a * b).natAbs < 2 ^ (m + n) := by
  rw [Int.natAbs_mul, Nat.pow_add]
  exact Nat.mul_lt_mul'' h1 h2
theorem bd_add {a b : Int} {m : Nat} (h1 : a.natAbs < 2 ^ m) (h2 : b.natAbs < 2 ^ m) : (a + b).natAbs < 2 ^ (m + 1) := by
  rw [Nat.pow_succ]
  omega
theorem bd_mono {a : Int} {m n : Nat} (h1 : a.natAbs < 2 ^ m) (h : m ≤ n) : a.natAbs < 2 ^ n := Nat.lt_of_lt_of_le h1 (Nat.pow_le_pow_right (by decide) h)
/-- q times m is whole -/
def Wh (m : Nat) (q : Rat) : Prop := ∃ k : Int, q * (m : Rat) = (k : Rat)
theorem Wh.den {m : Nat} {q : Rat} (h : Wh m q) (hm : 0 < m) : q.den ∣ m := by
  obtain ⟨k, h⟩ := h
  have e : q = (k : Rat) / ((m : Int) : Rat) := by
    have hm' : ((m : Int) : Rat) ≠ 0 := by
      intro z
      have : (m : Int) = 0 := by exact_mod_cast z
      omega
    have h' : q * ((m : Int) : Rat) = (k : Rat) := h
    grind
  have := rat_den (u := k) (l := (m : Int)) (by omega)
  rw [← e] at this
  have hd : (Int.gcd k m) ∣ m := by
    have := Int.gcd_dvd_natAbs_right (a := k) (b := (m : Int))
    simpa using this
  have e2 : q.den = m / Int.gcd k m := by
    have h3 : ((m : Int).natAbs : Int) = m := by simp
    rw [h3] at this
    exact_mod_cast this
  rw [e2]
  exact Nat.div_dvd_of_dvd hd
theorem Wh.add {m : Nat} {p q : Rat} (h1 : Wh m p) (h2 : Wh m q) : Wh m (p + q) := by
  obtain ⟨a, ha⟩ := h1
  obtain ⟨b, hb⟩ := h2
  refine ⟨a + b, ?_⟩
  rw [Rat.intCast_add]
  grind
theorem Wh.zero (m : Nat) : Wh m 0 := ⟨0, by rw [Rat.zero_mul]; rfl⟩
theorem Wh.of_den {m : Nat} {q : Rat} (h : q.den ∣ m) : Wh m q := by
  obtain ⟨c, rfl⟩ := h
  refine ⟨q.num * c, ?_⟩
  have e := rat_self q
  have hd := rat_den_ne q
  rw [Rat.intCast_mul, Rat.natCast_mul]
  have h2 : ((q.den : Nat) : Rat) = ((q.den : Int) : Rat) := rfl
  have h3 : ((c : Int) : Rat) = ((c : Nat) : Rat) := rfl
  rw [h2, h3]
  grind
/-- between nought and one, with a known divisor -/
structure Pr (m : Nat) (q : Rat) : Prop where
  lo : 0 ≤ q
  hi : q ≤ 1
  wh : Wh m q
theorem Pr.sm {m k : Nat} {q : Rat} (h : Pr m q) (hm : 0 < m) (hk : m < 2 ^ k) : Sm k q := by
  have hd := Nat.le_of_dvd hm (h.wh.den hm)
  have hdz := q.den_nz
  have h0 : 0 ≤ q.num := Rat.num_nonneg.mpr h.lo
  have h1 := (Rat.le_iff q 1).mp h.hi
  have h2 : q.num ≤ q.den := by simpa using h1
  refine ⟨?_, by omega⟩
  have : q.num.natAbs ≤ q.den := by omega
  omega
/-! ### steps -/
/-- a table of shares: nought or more, each row together one -/
structure Sto (n : Nat) (P : Nat → Nat → Rat) : Prop where
  nn : ∀ i j, i < n → j < n → 0 ≤ P i j
  one : ∀ i, i < n → sumN n (P i) = 1
/-- a spread: rooms with their shares -/
def shAt : List (Nat × Rat) → Nat → Rat
  | [], _ => 0
  | p :: t, j => (if p.1 = j then p.2 else 0) + shAt t j
def shSum : List (Nat × Rat) → Rat
  | [] => 0
  | p :: t => p.2 + shSum t
/-- a spread as the document has it, of shares that 55440 makes whole -/
structure SpOk (n : Nat) (l : List (Nat × Rat)) : Prop where
  few : 1 ≤ l.length ∧ l.length ≤ 6
  rise : (l.map (·.1)).Pairwise (· < ·)
  room : ∀ p ∈ l, p.1 < n
  pos : ∀ p ∈ l, 0 < p.2
  one : shSum l = 1
  wh : ∀ p ∈ l, Wh 55440 p.2
structure WkOk (ws : List (List (Nat × Rat))) : Prop where
  n1 : 1 ≤ ws.length
  n8 : ws.length ≤ 8
  sp : ∀ l ∈ ws, SpOk ws.length l
def pOf (ws : List (List (Nat × Rat))) (i j : Nat) : Rat := shAt (ws.getD i []) j
theorem getD_mem {α : Type} {l : List α} {i : Nat} {d : α} (h : i < l.length) : l.getD i d ∈ l := by
  rw [List.getD_eq_getElem?_getD, List.getElem?_eq_getElem h]
  exact List.getElem_mem h
end Lw

/-! ### what the text reckons with fractions -/
namespace Lw
open PySem L2
def ratD (q : Rat) : D := .tup [.int q.num, .int q.den]
theorem fr_rat {u l : Int} (h : 0 < l) : fracD (frU u l, frL u l) = ratD ((u : Rat) / (l : Rat)) := by
  unfold fracD ratD frU frL
  rw [rat_num (by omega), rat_den (by omega), Int.sign_eq_one_of_pos h, Int.one_mul]
  have : (l.natAbs : Int) = l := by omega
  rw [this]
theorem red_rat {u l : Int} (h : l ≠ 0) : ((u : Rat) / (l : Rat)).num = u.fdiv (if l < 0 then -(Int.gcd u l : Int) else (Int.gcd u l : Int)) ∧ (((u : Rat) / (l : Rat)).den : Int) = l.fdiv (if l < 0 then -(Int.gcd u l : Int) else (Int.gcd u l : Int)) := by
  have d1 : (Int.gcd u l : Int) ∣ u := Int.gcd_dvd_left ..
  have d2 : (Int.gcd u l : Int) ∣ l := Int.gcd_dvd_right ..
  rw [rat_num h, rat_den h]
  by_cases hl : l < 0
  · rw [if_pos hl, Int.sign_eq_neg_one_of_neg hl, Int.fdiv_eq_ediv_of_dvd (Int.neg_dvd.mpr d1), Int.fdiv_eq_ediv_of_dvd (Int.neg_dvd.mpr d2), Int.ediv_neg, Int.ediv_neg]
    have : (l.natAbs : Int) = -l := by omega
    rw [this, Int.neg_one_mul, Int.neg_ediv_of_dvd d1, Int.neg_ediv_of_dvd d2]
    exact ⟨rfl, rfl⟩
  · rw [if_neg hl, Int.sign_eq_one_of_pos (by omega), Int.fdiv_eq_ediv_of_dvd d1, Int.fdiv_eq_ediv_of_dvd d2, Int.one_mul]
    have : (l.natAbs : Int) = l := by omega
    rw [this]
    exact ⟨rfl, rfl⟩
theorem datR {K : PySem.W.Frag} {H : Hp} {v : V} {q : Rat} (h : DatAt K H v (ratD q)) : ∃ a, v = .ref a ∧ SqT K H a [.int q.num, .int q.den] := datF (x := (q.num, (q.den : Int))) h
theorem datR_mk {K : PySem.W.Frag} {H : Hp} {a : Addr} {q : Rat} (h : SqT K H a [.int q.num, .int q.den]) : DatAt K H (.ref a) (ratD q) := datF_mk (x := (q.num, (q.den : Int))) h
theorem gcd_nat_le {u l : Int} (h : l ≠ 0) : Int.gcd u l ≤ l.natAbs ∧ Int.gcd u l ≠ 0 := by
  refine ⟨Nat.le_of_dvd (by omega) (Int.gcd_dvd_natAbs_right ..), fun z => ?_⟩
  rw [Int.gcd_eq_zero_iff] at z
  exact h z.2
def spRed (K : PySem.W.Frag) : Sp := fun vs H Q _ => ∃ u l : Int, vs = [.int u, .int l] ∧ l ≠ 0 ∧ l.natAbs < 2 ^ 8000 ∧ ∀ p H', Same H H' → DatAt K H' p (ratD ((u : Rat) / (l : Rat))) → Q p H'
section
variable {P : Program} {w : World} {K : PySem.W.Frag} {mg : Str → Option Value} {base : Heap}
theorem ok_law_fracR {f fG : Addr} {fd fdG : FuncData} (B : Bn mg) (G : Df K mg "_law_frac" s_law_frac p_law_frac f fd) (G_law_divisor : Df K mg "_law_divisor" s_law_divisor p_law_divisor fG fdG) : FnOk P w K mg base CX0 2 f fd p_law_frac (spRed K) := by
  have C_law_divisor := ok_law_divisor (P := P) (w := w) (base := base) B G_law_divisor
  refine G.F.okW sc_law_frac (fun vs H Q E h => ?_) (fun cdv A outer s H vs Q E hr h => ?_)
  · obtain ⟨u, l, rfl, _⟩ := h
    rfl
  · obtain ⟨u, l, rfl, h0, h1, q⟩ := h
    have hr_law_divisor := hr
    obtain ⟨g1, g0⟩ := gcd_nat_le (u := u) h0
    obtain ⟨e1, e2⟩ := red_rat (u := u) h0
    refine ⟨_, (wpss_cons (wps_set (i := 2) sc_law_frac.nd rfl (Or.inl rfl) (wpe_callF C_law_divisor hr_law_divisor rfl G_law_divisor.m G_law_divisor.F.kp G_law_divisor.b pass0 (wpa_c (wpv 0) (wpa_c (wpv 1) wpa_nil)))) (wpss_cons (wps_if (wpt_cmpR op_lt (wpv 1) wpe_int (nomark _)) (wpss_one (wps_set (i := 2) sc_law_frac.nd rfl (Or.inl rfl) (wpe_un un_neg (wpv 2)))) wpss_nil) (wpss_one (wps_ret (wpe_tupN (wpa_c (wpe_op op_fdivK (wpv 0) (wpv 2)) (wpa_c (wpe_op op_fdivK (wpv 1) (wpv 2)) wpa_nil))))))), ?_⟩
    refine ⟨_, rfl, _, rfl, u, l, rfl, ?_⟩
    refine ⟨_, rfl, _, _, rfl, rfl, _, rfl, ?_⟩
    refine ite2 (fun z => ?_) (fun z => ?_)
    · have z : l < 0 := by simpa using z
      rw [if_pos z] at e1 e2
      refine ⟨_, rfl, _, rfl, ?_⟩
      refine ⟨_, rfl, _, rfl, _, _, rfl, rfl, ⟨by omega, by omega⟩, _, rfl, _, rfl, _, _, rfl, rfl, ⟨by omega, by omega⟩, (by show 2 ≤ sizeLine; decide), fun p H' _ S h => q _ H' S (datR_mk (SqT.of ?_))⟩
      rw [e1, e2]
      exact h
    · have z : ¬ l < 0 := by simpa using z
      rw [if_neg z] at e1 e2
      refine ⟨_, rfl, _, rfl, _, _, rfl, rfl, ⟨by omega, by omega⟩, _, rfl, _, rfl, _, _, rfl, rfl, ⟨by omega, by omega⟩, (by show 2 ≤ sizeLine; decide), fun p H' _ S h => q _ H' S (datR_mk (SqT.of ?_))⟩
      rw [e1, e2]
      exact h
theorem ok_reducedR {f fG : Addr} {fd fdG : FuncData} (B : Bn mg) (G : Df K mg "reduced" s_reduced p_reduced f fd) (G_common_divisor : Df K mg "common_divisor" s_common_divisor p_common_divisor fG fdG) : FnOk P w K mg base CX0 2 f fd p_reduced (spRed K) := by
  have C_common_divisor := ok_common_divisor (P := P) (w := w) (base := base) B G_common_divisor
  refine G.F.okW sc_reduced (fun vs H Q E h => ?_) (fun cdv A outer s H vs Q E hr h => ?_)
  · obtain ⟨u, l, rfl, _⟩ := h
    rfl
  · obtain ⟨u, l, rfl, h0, h1, q⟩ := h
    have hr_common_divisor := hr
    obtain ⟨g1, g0⟩ := gcd_nat_le (u := u) h0
    obtain ⟨e1, e2⟩ := red_rat (u := u) h0
    refine ⟨_, (wpss_cons (wps_set (i := 2) sc_reduced.nd rfl (Or.inl rfl) (wpe_callF C_common_divisor hr_common_divisor rfl G_common_divisor.m G_common_divisor.F.kp G_common_divisor.b pass0 (wpa_c (wpv 0) (wpa_c (wpv 1) wpa_nil)))) (wpss_cons (wps_if (wpt_cmpR op_lt (wpv 1) wpe_int (nomark _)) (wpss_one (wps_set (i := 2) sc_reduced.nd rfl (Or.inl rfl) (wpe_un un_neg (wpv 2)))) wpss_nil) (wpss_one (wps_ret (wpe_tupN (wpa_c (wpe_op op_fdivK (wpv 0) (wpv 2)) (wpa_c (wpe_op op_fdivK (wpv 1) (wpv 2)) wpa_nil))))))), ?_⟩
    refine ⟨_, rfl, _, rfl, u, l, rfl, ?_⟩
    refine ⟨_, rfl, _, _, rfl, rfl, _, rfl, ?_⟩
    refine ite2 (fun z => ?_) (fun z => ?_)
    · have z : l < 0 := by simpa using z
      rw [if_pos z] at e1 e2
      refine ⟨_, rfl, _, rfl, ?_⟩
      refine ⟨_, rfl, _, rfl, _, _, rfl, rfl, ⟨by omega, by omega⟩, _, rfl, _, rfl, _, _, rfl, rfl, ⟨by omega, by omega⟩, (by show 2 ≤ sizeLine; decide), fun p H' _ S h => q _ H' S (datR_mk (SqT.of ?_))⟩
      rw [e1, e2]
      exact h
    · have z : ¬ l < 0 := by simpa using z
      rw [if_neg z] at e1 e2
      refine ⟨_, rfl, _, rfl, _, _, rfl, rfl, ⟨by omega, by omega⟩, _, rfl, _, rfl, _, _, rfl, rfl, ⟨by omega, by omega⟩, (by show 2 ≤ sizeLine; decide), fun p H' _ S h => q _ H' S (datR_mk (SqT.of ?_))⟩
      rw [e1, e2]
      exact h
end
end Lw

namespace L2
open PySem
end L2
namespace Lw
open PySem L2
/-! ### lists of fractions -/
def rl (n : Nat) (f : Nat → Rat) : List D := (List.range n).map fun j => ratD (f j)
theorem rl_len (n : Nat) (f : Nat → Rat) : (rl n f).length = n := by simp [rl]
theorem rl_get {n : Nat} {f : Nat → Rat} {j : Nat} (h : j < n) : (rl n f)[j]? = some (ratD (f j)) := by simp [rl, h]
/-- a list of fractions that may be changed -/
def RL (K : PySem.W.Frag) (H : Hp) (l : Addr) (n : Nat) (f : Nat → Rat) : Prop := ∃ ys, H l = some (.lst ys) ∧ DatsAt K H ys (rl n f)
/-! ### walks of shares -/
def spD (l : List (Nat × Rat)) : D := .tup (l.map fun p => .tup [.int p.1, ratD p.2])
def wkD (ws : List (List (Nat × Rat))) : D := .tup (ws.map spD)
theorem tot_pos {many : Int} {ps : List (Int × Int)} (h : SprOk many ps) : 0 < totW ps := by
  have hne := h.ne
  obtain ⟨p, hp⟩ : ∃ p, p ∈ ps := by
    cases ps with
    | nil => simp at hne
    | cons p t => exact ⟨p, List.mem_cons_self⟩
  have h1 := h.pos p hp
  have h2 := totW_ge ps h.pos p hp
  omega
def toSp (W : Int) (ps : List (Int × Int)) : List (Nat × Rat) := ps.map fun p => (p.1.toNat, (p.2 : Rat) / (W : Rat))
theorem toSp_sum (W : Int) (hW : W ≠ 0) : ∀ ps : List (Int × Int), shSum (toSp W ps) = (totW ps : Rat) / (W : Rat)
  | [] => by
    show (0 : Rat) = ((0 : Int) : Rat) / (W : Rat)
    have : ((0 : Int) : Rat) = 0 := rfl
    rw [this]
    grind
  | p :: t => by
    show (p.2 : Rat) / (W : Rat) + shSum (toSp W t) = _
    rw [toSp_sum W hW t, totW_cons, Rat.intCast_add]
    have hW' : (W : Rat) ≠ 0 := fun z => hW (by exact_mod_cast z)
    grind
theorem dvd55440 {l : Nat} (h1 : 1 ≤ l) (h2 : l ≤ 12) : l ∣ 55440 := by
  have key : ∀ k : Fin 13, 1 ≤ k.val → k.val ∣ 55440 := by decide
  exact key ⟨l, Nat.lt_succ_of_le h2⟩ h1
theorem spr_of_law {n : Nat} {ps : List (Int × Int)} (h : SprOk (n : Int) ps) : SpOk n (toSp (totW ps) ps) ∧ sprD ps = spD (toSp (totW ps) ps) := by
  have hW := tot_pos h
  have hW' : ((totW ps : Int) : Rat) ≠ 0 := fun z => absurd (show totW ps = 0 by exact_mod_cast z) (by omega)
  have hpos : ∀ p ∈ ps, (0 : Rat) < (p.2 : Rat) / (totW ps : Rat) := fun p hp => by
    have h1 := h.pos p hp
    have a : (0 : Rat) < (p.2 : Rat) := Rat.intCast_pos.mpr (by omega)
    have b : (0 : Rat) < (totW ps : Rat) := Rat.intCast_pos.mpr hW
    rw [Rat.lt_div_iff b, Rat.zero_mul]
    exact a
  refine ⟨⟨by unfold toSp; rw [List.length_map]; exact ⟨h.ne, Nat.le_trans h.few (by decide)⟩, ?_, fun p hp => ?_, fun p hp => ?_, ?_, fun p hp => ?_⟩, ?_⟩
  · have := h.rise
    unfold toSp
    rw [List.map_map]
    rw [List.pairwise_map] at this ⊢
    refine this.imp_of_mem fun {a b} ha hb hlt => ?_
    have := (h.room a ha).1
    have := (h.room b hb).1
    show a.1.toNat < b.1.toNat
    omega
  · obtain ⟨p', hp', rfl⟩ := List.mem_map.mp hp
    have := h.room p' hp'
    show p'.1.toNat < n
    omega
  · obtain ⟨p', hp', rfl⟩ := List.mem_map.mp hp
    exact hpos p' hp'
  · rw [toSp_sum _ (by omega)]
    grind
  · obtain ⟨p', hp', rfl⟩ := List.mem_map.mp hp
    refine Wh.of_den ?_
    have hd := rat_den (u := p'.2) (l := totW ps) (by omega)
    have hf := frL_pos (u := p'.2) hW
    have ht := h.tot
    have : (((p'.2 : Rat) / (totW ps : Rat)).den : Int) = frL p'.2 (totW ps) := by
      rw [hd]
      unfold frL
      have : ((totW ps).natAbs : Int) = totW ps := by omega
      rw [this]
    refine dvd55440 ?_ ?_
    · show 1 ≤ ((p'.2 : Rat) / (totW ps : Rat)).den
      omega
    · show ((p'.2 : Rat) / (totW ps : Rat)).den ≤ 12
      omega
  · unfold sprD spD toSp
    rw [List.map_map]
    congr 1
    refine List.map_congr_left fun p hp => ?_
    have := h.room p hp
    show pairD (totW ps) p = .tup [.int (p.1.toNat : Int), ratD ((p.2 : Rat) / (totW ps : Rat))]
    rw [← fr_rat hW]
    have e : (p.1.toNat : Int) = p.1 := by omega
    rw [e]
    rfl
end Lw

namespace Lw
open PySem L2
theorem Sm.num {q : Rat} (h : Sm 1000 q) : q.num.natAbs < 2 ^ 4000 := bd_mono h.1 (by decide)
theorem Sm.den {q : Rat} (h : Sm 1000 q) : ((q.den : Int)).natAbs < 2 ^ 4000 := bd_mono (m := 1000) (by rw [Int.natAbs_natCast]; exact h.2) (by decide)
theorem Sm.den1 {q : Rat} (h : Sm 1000 q) : ((q.den : Int)).natAbs < 2 ^ 1000 := by rw [Int.natAbs_natCast]; exact h.2
theorem den_ne (q : Rat) : (q.den : Int) ≠ 0 := by have := q.den_nz; omega
theorem add_val (a b c : Rat) : ((a.num * (b.den : Int) * (c.den : Int) + c.num * b.num * (a.den : Int) : Int) : Rat) / (((a.den : Int) * (b.den : Int) * (c.den : Int) : Int) : Rat) = a + b * c := by
  rw [Rat.intCast_add, Rat.intCast_mul, Rat.intCast_mul, Rat.intCast_mul, Rat.intCast_mul, Rat.intCast_mul, Rat.intCast_mul]
  have e1 := rat_self a
  have e2 := rat_self b
  have e3 := rat_self c
  have n1 := rat_den_ne a
  have n2 := rat_den_ne b
  have n3 := rat_den_ne c
  grind
def spAddR (K : PySem.W.Frag) : Sp := fun vs H Q _ => ∃ (v1 v2 v3 : V) (a b c : Rat), vs = [v1, v2, v3] ∧ DatAt K H v1 (ratD a) ∧ DatAt K H v2 (ratD b) ∧ DatAt K H v3 (ratD c) ∧ Sm 1000 a ∧ Sm 1000 b ∧ Sm 1000 c ∧
  ∀ p H', Same H H' → DatAt K H' p (ratD (a + b * c)) → Q p H'
end Lw
namespace Lw
open PySem L2
section
variable {P : Program} {w : World} {K : PySem.W.Frag} {mg : Str → Option Value} {base : Heap}
theorem ok_law_addR {f fG fR : Addr} {fd fdG fdR : FuncData} (B : Bn mg) (G : Df K mg "_law_add" s_law_add p_law_add f fd) (G_law_frac : Df K mg "_law_frac" s_law_frac p_law_frac fR fdR) (GG : Df K mg "_law_divisor" s_law_divisor p_law_divisor fG fdG) : FnOk P w K mg base CX0 3 f fd p_law_add (spAddR K) := by
  have C_law_frac := ok_law_fracR (P := P) (w := w) (base := base) B G_law_frac GG
  refine G.F.okW sc_law_add (fun vs H Q E h => ?_) (fun cdv A outer s H vs Q E hr h => ?_)
  · obtain ⟨v1, v2, v3, a, b, c, rfl, _⟩ := h
    rfl
  · obtain ⟨v1, v2, v3, a, b, c, rfl, d1, d2, d3, sa, sb, sc, q⟩ := h
    obtain ⟨a1, rfl, h1⟩ := datR d1
    obtain ⟨a2, rfl, h2⟩ := datR d2
    obtain ⟨a3, rfl, h3⟩ := datR d3
    have hr_law_frac := hr
    have u1 := bd_mul sa.1 sb.den1
    have u2 := bd_mul sc.1 sb.1
    have u3 := bd_mul sa.den1 sb.den1
    have u4 := bd_mul u3 sc.den1
    refine ⟨_, (wpss_one (wps_ret (wpe_callF C_law_frac hr_law_frac rfl G_law_frac.m G_law_frac.F.kp G_law_frac.b pass0 (wpa_c (wpe_op op_add (wpe_op op_mulK (wpe_op op_mulK (wpe_ix ix_tup (wpv 0) wpe_int (fun _ _ => rfl)) (wpe_ix ix_tup (wpv 1) wpe_int (fun _ _ => rfl))) (wpe_ix ix_tup (wpv 2) wpe_int (fun _ _ => rfl))) (wpe_op op_mulK (wpe_op op_mulK (wpe_ix ix_tup (wpv 2) wpe_int (fun _ _ => rfl)) (wpe_ix ix_tup (wpv 1) wpe_int (fun _ _ => rfl))) (wpe_ix ix_tup (wpv 0) wpe_int (fun _ _ => rfl)))) (wpa_c (wpe_op op_mulK (wpe_op op_mulK (wpe_ix ix_tup (wpv 0) wpe_int (fun _ _ => rfl)) (wpe_ix ix_tup (wpv 1) wpe_int (fun _ _ => rfl))) (wpe_ix ix_tup (wpv 2) wpe_int (fun _ _ => rfl))) wpa_nil))))), ?_⟩
    refine ⟨_, rfl, a1, _, _, _, rfl, rfl, h1, rfl, _, rfl, a2, _, _, _, rfl, rfl, h2, rfl, _, _, rfl, rfl, ⟨sa.num, sb.den⟩, _, rfl, a3, _, _, _, rfl, rfl, h3, rfl, _, _, rfl, rfl, ⟨bd_mono u1 (by decide), sc.den⟩, ?_⟩
    refine ⟨_, rfl, a3, _, _, _, rfl, rfl, h3, rfl, _, rfl, a2, _, _, _, rfl, rfl, h2, rfl, _, _, rfl, rfl, ⟨sc.num, sb.num⟩, _, rfl, a1, _, _, _, rfl, rfl, h1, rfl, _, _, rfl, rfl, ⟨bd_mono u2 (by decide), sa.den⟩, _, _, rfl, rfl, ?_⟩
    refine ⟨_, rfl, a1, _, _, _, rfl, rfl, h1, rfl, _, rfl, a2, _, _, _, rfl, rfl, h2, rfl, _, _, rfl, rfl, ⟨sa.den, sb.den⟩, _, rfl, a3, _, _, _, rfl, rfl, h3, rfl, _, _, rfl, rfl, ⟨bd_mono u3 (by decide), sc.den⟩, ?_⟩
    refine ⟨_, _, rfl, Int.mul_ne_zero (Int.mul_ne_zero (den_ne a) (den_ne b)) (den_ne c), bd_mono u4 (by decide), fun p H' S hp => q p H' S ?_⟩
    rw [add_val] at hp
    exact hp
end
end Lw

namespace Lw
open PySem L2
/-- behind i rooms and some pairs of the next -/
def part (ws : List (List (Nat × Rat))) (f : Nat → Rat) (i : Nat) (l : List (Nat × Rat)) (j : Nat) : Rat := sumN i (fun i' => f i' * pOf ws i' j) + f i * shAt l j
theorem pow_sm {t : Nat} (h : t ≤ 8) : 55440 ^ t < 2 ^ 1000 := Nat.lt_of_le_of_lt (Nat.pow_le_pow_right (by decide) h) (by decide)
theorem Pr.sm8 {t : Nat} {q : Rat} (h : Pr (55440 ^ t) q) (ht : t ≤ 8) : Sm 1000 q := h.sm (Nat.pow_pos (by decide)) (pow_sm ht)
theorem sh_sm {q : Rat} (h0 : 0 < q) (h1 : q ≤ 1) (hw : Wh 55440 q) : Sm 1000 q := Pr.sm8 (t := 1) ⟨Rat.le_of_lt h0, h1, by rw [Nat.pow_one]; exact hw⟩ (by decide)
theorem sh_le {l : List (Nat × Rat)} (hp : ∀ p ∈ l, 0 < p.2) {p : Nat × Rat} (h : p ∈ l) : p.2 ≤ shSum l := by
  have nn : ∀ l : List (Nat × Rat), (∀ p ∈ l, 0 < p.2) → 0 ≤ shSum l := by
    intro l
    induction l with
    | nil => intro _; exact Rat.le_refl
    | cons x t ih => intro h; have := h x List.mem_cons_self; have := ih fun y hy => h y (List.mem_cons_of_mem _ hy); simp only [shSum]; grind
  induction l with
  | nil => cases h
  | cons x t ih =>
    have h1 := hp x List.mem_cons_self
    have h2 := nn t fun y hy => hp y (List.mem_cons_of_mem _ hy)
    simp only [shSum]
    rcases List.mem_cons.mp h with rfl | h
    · grind
    · have := ih (fun y hy => hp y (List.mem_cons_of_mem _ hy)) h; grind
theorem SpOk.sm {n : Nat} {l : List (Nat × Rat)} (h : SpOk n l) {p : Nat × Rat} (hp : p ∈ l) : Sm 1000 p.2 := sh_sm (h.pos p hp) (by rw [← h.one]; exact sh_le h.pos hp) (h.wh p hp)
/-- a pair, a spread, a walk of shares where they lie -/
theorem dat_pair {K : PySem.W.Frag} {H : Hp} {v : V} {r : Nat} {q : Rat} (h : DatAt K H v (.tup [.int r, ratD q])) : ∃ a sv, v = .ref a ∧ SqT K H a [.int r, sv] ∧ DatAt K H sv (ratD q) := by
  obtain ⟨a, vs, rfl, ha, hd⟩ := dat_tup h
  obtain ⟨v0, v1, d0, d1, rfl, e, r0, r1⟩ := dats2 hd rfl
  cases e
  have := dat_int r0
  subst this
  exact ⟨a, v1, rfl, ha, r1⟩
theorem dat_wk {K : PySem.W.Frag} {H : Hp} {v : V} {ws : List (List (Nat × Rat))} (h : DatAt K H v (wkD ws)) : ∃ a vs, v = .ref a ∧ SqT K H a vs ∧ vs.length = ws.length ∧ ∀ i, i < ws.length → ∃ x, vs[i]? = some x ∧ DatAt K H x (spD (ws.getD i [])) := by
  obtain ⟨a, vs, rfl, ha, hd⟩ := dat_tup h
  refine ⟨a, vs, rfl, ha, by rw [hd.length, List.length_map], fun i hi => ?_⟩
  obtain ⟨x, h1, h2⟩ := hd.get (i := i) (d := spD (ws.getD i [])) (by rw [List.getElem?_map, List.getElem?_eq_getElem hi, List.getD_eq_getElem?_getD, List.getElem?_eq_getElem hi]; rfl)
  exact ⟨x, h1, h2⟩
theorem dat_sp {K : PySem.W.Frag} {H : Hp} {v : V} {l : List (Nat × Rat)} (h : DatAt K H v (spD l)) : ∃ a vs, v = .ref a ∧ SqT K H a vs ∧ vs.length = l.length ∧ ∀ (i : Nat) x, vs[i]? = some x → ∃ p, l[i]? = some p ∧ DatAt K H x (.tup [.int p.1, ratD p.2]) := by
  obtain ⟨a, vs, rfl, ha, hd⟩ := dat_tup h
  refine ⟨a, vs, rfl, ha, by rw [hd.length, List.length_map], fun i x hx => ?_⟩
  obtain ⟨d, h1, h2⟩ := hd.get' hx
  rw [List.getElem?_map] at h1
  cases e : l[i]? with
  | none => rw [e] at h1; cases h1
  | some p => rw [e] at h1; cases h1; exact ⟨p, rfl, h2⟩
end Lw

namespace Lw
open PySem L2
/-! ### looks at what is known to be right -/
def spFracV (K : PySem.W.Frag) : Sp := fun vs H Q _ => ∃ (v : V) (q : Rat), vs = [v] ∧ DatAt K H v (ratD q) ∧ Q (.bl true) H
def spRoomV : Sp := fun vs H Q _ => ∃ k n : Nat, vs = [.int k, .int n] ∧ k < n ∧ Q (.bl true) H
def spPairV (K : PySem.W.Frag) : Sp := fun vs H Q _ => ∃ (v : V) (k n : Nat) (q : Rat), vs = [v, .int n] ∧ DatAt K H v (.tup [.int k, ratD q]) ∧ k < n ∧ 0 < q ∧ Q (.bl true) H
def spPlusR (K : PySem.W.Frag) : Sp := fun vs H Q _ => ∃ (v1 v2 : V) (a b : Rat), vs = [v1, v2] ∧ DatAt K H v1 (ratD a) ∧ DatAt K H v2 (ratD b) ∧ Sm 3000 a ∧ Sm 200 b ∧ ∀ p H', Same H H' → DatAt K H' p (ratD (a + b)) → Q p H'
def sumQ : List Rat → Rat
  | [] => 0
  | q :: t => q + sumQ t
theorem sumQ_app : ∀ (l : List Rat) (q : Rat), sumQ (l ++ [q]) = sumQ l + q
  | [], q => by show q + 0 = 0 + q; grind
  | x :: t, q => by show x + sumQ (t ++ [q]) = x + sumQ t + q; rw [sumQ_app t q]; grind
def spTotR (K : PySem.W.Frag) : Sp := fun vs H Q _ => ∃ (a : Addr) (ys : List V) (qs : List Rat), vs = [.ref a] ∧ SqL K H a ys ∧ DatsAt K H ys (qs.map ratD) ∧ qs.length ≤ 9 ∧ (∀ q ∈ qs, Sm 200 q) ∧ ∀ p H', Same H H' → DatAt K H' p (ratD (sumQ qs)) → Sm 2000 (sumQ qs) → Q p H'
def spSprV (K : PySem.W.Frag) : Sp := fun vs H Q _ => ∃ (v : V) (l : List (Nat × Rat)) (n : Nat), vs = [v, .int n] ∧ DatAt K H v (spD l) ∧ SpOk n l ∧ ∀ H', Same H H' → Q (.bl true) H'
def spWlkV (K : PySem.W.Frag) : Sp := fun vs H Q _ => ∃ (v : V) (ws : List (List (Nat × Rat))), vs = [v] ∧ DatAt K H v (wkD ws) ∧ WkOk ws ∧ ∀ H', Same H H' → Q (.bl true) H'
def spChkV (K : PySem.W.Frag) : Sp := fun vs H Q _ => ∃ (v : V) (ws : List (List (Nat × Rat))), vs = [v] ∧ DatAt K H v (wkD ws) ∧ WkOk ws ∧ ∀ H', Same H H' → Q v H'
theorem Sm.mono {j k : Nat} {q : Rat} (h : Sm j q) (hk : j ≤ k) : Sm k q := ⟨bd_mono h.1 hk, Nat.lt_of_lt_of_le h.2 (Nat.pow_le_pow_right (by decide) hk)⟩
theorem Sm.dI {k : Nat} {q : Rat} (h : Sm k q) : ((q.den : Int)).natAbs < 2 ^ k := by rw [Int.natAbs_natCast]; exact h.2
theorem sm_of {z d : Int} {k : Nat} (hd : d ≠ 0) (hz : z.natAbs < 2 ^ k) (hdk : d.natAbs < 2 ^ k) : Sm k ((z : Rat) / (d : Rat)) := by
  have hn := rat_num (u := z) hd
  have hdn := rat_den (u := z) hd
  constructor
  · rw [hn]
    refine Nat.lt_of_le_of_lt ?_ hz
    have e : (d.sign * z).natAbs = z.natAbs := by
      rw [Int.natAbs_mul, Int.natAbs_sign_of_ne_zero hd, Nat.one_mul]
    rw [← e]
    exact Int.natAbs_ediv_le_natAbs (d.sign * z) (Int.gcd z d : Int)
  · have e : ((d.natAbs : Int) / ((Int.gcd z d : Nat) : Int)) = ((d.natAbs / Int.gcd z d : Nat) : Int) := rfl
    rw [e] at hdn
    rw [Int.ofNat.inj hdn]
    exact Nat.lt_of_le_of_lt (Nat.div_le_self d.natAbs (Int.gcd z d)) hdk
theorem plus_val (a b : Rat) : ((a.num * (b.den : Int) + b.num * (a.den : Int) : Int) : Rat) / (((a.den : Int) * (b.den : Int) : Int) : Rat) = a + b := by
  rw [Rat.intCast_add, Rat.intCast_mul, Rat.intCast_mul, Rat.intCast_mul]
  have e1 := rat_self a
  have e2 := rat_self b
  have n1 := rat_den_ne a
  have n2 := rat_den_ne b
  grind
theorem sm_plus {k : Nat} {a b : Rat} (ha : Sm k a) (hb : Sm 200 b) : Sm (k + 201) (a + b) := by
  rw [← plus_val]
  have u1 := bd_mul ha.1 hb.dI
  have u2 := bd_mul hb.1 ha.dI
  have u3 := bd_mul ha.dI hb.dI
  rw [Nat.add_comm] at u2
  exact sm_of (Int.mul_ne_zero (den_ne a) (den_ne b)) (bd_add u1 u2) (bd_mono u3 (Nat.le_succ _))
theorem SpOk.sm200 {n : Nat} {l : List (Nat × Rat)} (h : SpOk n l) {p : Nat × Rat} (hp : p ∈ l) : Sm 200 p.2 := Pr.sm (m := 55440) ⟨Rat.le_of_lt (h.pos p hp), by rw [← h.one]; exact sh_le h.pos hp, h.wh p hp⟩ (by decide) (by decide)
theorem sumQ_sh : ∀ l : List (Nat × Rat), sumQ (l.map (·.2)) = shSum l
  | [] => rfl
  | p :: t => by show p.2 + sumQ (t.map (·.2)) = p.2 + shSum t; rw [sumQ_sh t]
section
variable {P : Program} {w : World} {K : PySem.W.Frag} {mg : Str → Option Value} {base : Heap}
theorem gcd_one (q : Rat) : decide (V.int (Int.gcd q.num (q.den : Int) : Int) = V.int 1) = true := by
  have : Int.gcd q.num (q.den : Int) = 1 := q.reduced
  rw [this]
  exact decide_eq_true rfl
theorem den_ge (q : Rat) : (1 : Int) ≤ (q.den : Int) := Int.ofNat_le.mpr (Nat.pos_of_ne_zero q.den_nz)
theorem ok_is_fractionV {f fW fG : Addr} {fd fdW fdG : FuncData} (B : Bn mg) (G : Df K mg "is_fraction" s_is_fraction p_is_fraction f fd) (G_is_whole : Df K mg "is_whole" s_is_whole p_is_whole fW fdW) (G_common_divisor : Df K mg "common_divisor" s_common_divisor p_common_divisor fG fdG) : FnOk P w K mg base CX0 2 f fd p_is_fraction (spFracV K) := by
  have C_is_whole := ok_is_whole (P := P) (w := w) (base := base) B G_is_whole
  have C_common_divisor := ok_common_divisor (P := P) (w := w) (base := base) B G_common_divisor
  refine G.F.okW sc_is_fraction (fun vs H Q E h => ?_) (fun cdv A outer s H vs Q E hr h => ?_)
  · obtain ⟨v, x, rfl, _⟩ := h
    rfl
  · obtain ⟨v, x, rfl, hv, q⟩ := h
    have hr_is_whole := hr
    have hr_common_divisor := hr
    obtain ⟨a, rfl, ha⟩ := datR hv
    refine ⟨_, (wpss_cons (wps_if (wpw_pt (wpw_or (wpt_not (wpt_val (wpe_callBF call_isD rfl B.isinstance PyProof.Rows.boot_isinstance (wpa_c (wpv 0) (wpa_c (wpe_bltn (v := .ty "tuple") rfl B.tuple PyProof.Rows.boot_tuple rfl) wpa_nil))))) (wpw_or1 (wpt_cmpR op_ne (wpe_callBF call_len_seq rfl B.len PySem.boot_len (wpa_c (wpv 0) wpa_nil)) wpe_int (nomark _))))) (wpss_one (wps_ret wpe_bl)) wpss_nil) (wpss_cons (wps_if (wpw_pt (wpw_or (wpt_not (wpt_val (wpe_callF C_is_whole hr_is_whole rfl G_is_whole.m G_is_whole.F.kp G_is_whole.b pass0 (wpa_c (wpe_ix ix_tup (wpv 0) wpe_int (fun _ _ => rfl)) wpa_nil)))) (wpw_or1 (wpt_not (wpt_val (wpe_callF C_is_whole hr_is_whole rfl G_is_whole.m G_is_whole.F.kp G_is_whole.b pass0 (wpa_c (wpe_ix ix_tup (wpv 0) wpe_int (fun _ _ => rfl)) wpa_nil))))))) (wpss_one (wps_ret wpe_bl)) wpss_nil) (wpss_one (wps_ret (wpe_and (wpe_cmpR op_ge (wpe_ix ix_tup (wpv 0) wpe_int (fun _ _ => rfl)) wpe_int (nomark _)) (wpe_one (wpe_cmpR op_eq (wpe_callF C_common_divisor hr_common_divisor rfl G_common_divisor.m G_common_divisor.F.kp G_common_divisor.b pass0 (wpa_c (wpe_ix ix_tup (wpv 0) wpe_int (fun _ _ => rfl)) (wpa_c (wpe_ix ix_tup (wpv 0) wpe_int (fun _ _ => rfl)) wpa_nil))) wpe_int (nomark _)))))))), ?_⟩
    refine ⟨_, rfl, .ref a, _, _, _, rfl, hv, kit_tuple _, _, rfl, iteF ?_⟩
    refine ⟨_, rfl, a, _, rfl, .inr ha, rfl, _, rfl, ndF rfl ?_⟩
    refine ⟨_, rfl, a, _, _, _, rfl, rfl, ha, rfl, _, _, rfl, .int _, _, rfl, iteF ?_⟩
    refine ⟨_, rfl, a, _, _, _, rfl, rfl, ha, rfl, _, _, rfl, .int _, _, rfl, iteF ?_⟩
    refine ⟨_, rfl, a, _, _, _, rfl, rfl, ha, rfl, _, _, rfl, rfl, _, rfl, decT (den_ge x) ?_⟩
    refine ⟨_, rfl, a, _, _, _, rfl, rfl, ha, rfl, _, rfl, a, _, _, _, rfl, rfl, ha, rfl, _, _, rfl, rfl, ?_⟩
    rw [gcd_one]
    exact q
theorem ok_is_roomV {f fW : Addr} {fd fdW : FuncData} (B : Bn mg) (G : Df K mg "is_room" s_is_room p_is_room f fd) (G_is_whole : Df K mg "is_whole" s_is_whole p_is_whole fW fdW) : FnOk P w K mg base CX0 2 f fd p_is_room spRoomV := by
  have C_is_whole := ok_is_whole (P := P) (w := w) (base := base) B G_is_whole
  refine G.F.okW sc_is_room (fun vs H Q E h => ?_) (fun cdv A outer s H vs Q E hr h => ?_)
  · obtain ⟨k, n, rfl, _⟩ := h
    rfl
  · obtain ⟨k, n, rfl, hk, q⟩ := h
    have hr_is_whole := hr
    refine ⟨_, (wpss_one (wps_ret (wpe_and (wpe_callF C_is_whole hr_is_whole rfl G_is_whole.m G_is_whole.F.kp G_is_whole.b pass0 (wpa_c (wpv 0) wpa_nil)) (wpe_one (wpe_chain op_le op_lt wpe_int (wpv 0) (wpv 1)))))), ?_⟩
    refine ⟨_, rfl, _, _, rfl, .int _, _, rfl, iteT ?_⟩
    refine ⟨_, rfl, _, _, rfl, rfl, _, rfl, decT (Int.natCast_nonneg k) ?_⟩
    refine ⟨_, rfl, _, _, rfl, rfl, ?_⟩
    show Q (.bl (decide ((k : Int) < (n : Int)))) H
    rw [decide_eq_true (Int.ofNat_lt.mpr hk)]
    exact q
theorem ok_is_pairV {f fR fF : Addr} {fd fdR fdF : FuncData} (B : Bn mg) (C_is_room : FnOk P w K mg base CX0 2 fR fdR p_is_room spRoomV) (C_is_fraction : FnOk P w K mg base CX0 2 fF fdF p_is_fraction (spFracV K)) (G : Df K mg "is_pair" s_is_pair p_is_pair f fd) (G_is_room : Df K mg "is_room" s_is_room p_is_room fR fdR)
    (G_is_fraction : Df K mg "is_fraction" s_is_fraction p_is_fraction fF fdF) : FnOk P w K mg base CX0 3 f fd p_is_pair (spPairV K) := by
  refine G.F.okW sc_is_pair (fun vs H Q E h => ?_) (fun cdv A outer s H vs Q E hr h => ?_)
  · obtain ⟨v, k, n, x, rfl, _⟩ := h
    rfl
  · obtain ⟨v, k, n, x, rfl, hv, hk, hx, q⟩ := h
    have hr_is_room := hr
    have hr_is_fraction := hr
    obtain ⟨a, sv, rfl, ha, hsv⟩ := dat_pair hv
    obtain ⟨b, rfl, hb⟩ := datR hsv
    refine ⟨_, (wpss_cons (wps_if (wpw_pt (wpw_or (wpt_not (wpt_val (wpe_callBF call_isD rfl B.isinstance PyProof.Rows.boot_isinstance (wpa_c (wpv 0) (wpa_c (wpe_bltn (v := .ty "tuple") rfl B.tuple PyProof.Rows.boot_tuple rfl) wpa_nil))))) (wpw_or1 (wpt_cmpR op_ne (wpe_callBF call_len_seq rfl B.len PySem.boot_len (wpa_c (wpv 0) wpa_nil)) wpe_int (nomark _))))) (wpss_one (wps_ret wpe_bl)) wpss_nil) (wpss_one (wps_ret (wpe_and (wpe_callF C_is_room hr_is_room rfl G_is_room.m G_is_room.F.kp G_is_room.b pass0 (wpa_c (wpe_ix ix_tup (wpv 0) wpe_int (fun _ _ => rfl)) (wpa_c (wpv 1) wpa_nil))) (wpe_and (wpe_callF C_is_fraction hr_is_fraction rfl G_is_fraction.m G_is_fraction.F.kp G_is_fraction.b pass0 (wpa_c (wpe_ix ix_tup (wpv 0) wpe_int (fun _ _ => rfl)) wpa_nil)) (wpe_one (wpe_cmpR op_gt (wpe_ix ix_tup (wpe_ix ix_tup (wpv 0) wpe_int (fun _ _ => rfl)) wpe_int (fun _ _ => rfl)) wpe_int (nomark _)))))))), ?_⟩
    refine ⟨_, rfl, .ref a, _, _, _, rfl, hv, kit_tuple _, _, rfl, iteF ?_⟩
    refine ⟨_, rfl, a, _, rfl, .inr ha, rfl, _, rfl, ndF rfl ?_⟩
    refine ⟨_, rfl, a, _, _, _, rfl, rfl, ha, rfl, _, rfl, k, n, rfl, hk, _, rfl, iteT ?_⟩
    refine ⟨_, rfl, a, _, _, _, rfl, rfl, ha, rfl, .ref b, x, rfl, hsv, _, rfl, iteT ?_⟩
    refine ⟨_, rfl, a, _, _, _, rfl, rfl, ha, rfl, b, _, _, _, rfl, rfl, hb, rfl, _, _, rfl, rfl, ?_⟩
    have hn : (0 : Int) < x.num := by
      have h0 : x.num ≠ 0 := fun z => Rat.ne_of_gt hx (Rat.num_eq_zero.mp z)
      have := Rat.num_nonneg.mpr (Rat.le_of_lt hx)
      omega
    show Q (.bl (decide (0 < x.num))) H
    rw [decide_eq_true hn]
    exact q
theorem ok_plusR {f fR fG : Addr} {fd fdR fdG : FuncData} (B : Bn mg) (G : Df K mg "plus" s_plus p_plus f fd) (G_reduced : Df K mg "reduced" s_reduced p_reduced fR fdR) (G_common_divisor : Df K mg "common_divisor" s_common_divisor p_common_divisor fG fdG) : FnOk P w K mg base CX0 3 f fd p_plus (spPlusR K) := by
  have C_reduced := ok_reducedR (P := P) (w := w) (base := base) B G_reduced G_common_divisor
  refine G.F.okW sc_plus (fun vs H Q E h => ?_) (fun cdv A outer s H vs Q E hr h => ?_)
  · obtain ⟨v1, v2, a, b, rfl, _⟩ := h
    rfl
  · obtain ⟨v1, v2, a, b, rfl, d1, d2, sa, sb, q⟩ := h
    obtain ⟨a1, rfl, h1⟩ := datR d1
    obtain ⟨a2, rfl, h2⟩ := datR d2
    have hr_reduced := hr
    have l1 : (3000 : Nat) ≤ 4000 := by decide
    have l2 : (200 : Nat) ≤ 4000 := by decide
    refine ⟨_, (wpss_one (wps_ret (wpe_callF C_reduced hr_reduced rfl G_reduced.m G_reduced.F.kp G_reduced.b pass0 (wpa_c (wpe_op op_add (wpe_op op_mulK (wpe_ix ix_tup (wpv 0) wpe_int (fun _ _ => rfl)) (wpe_ix ix_tup (wpv 1) wpe_int (fun _ _ => rfl))) (wpe_op op_mulK (wpe_ix ix_tup (wpv 1) wpe_int (fun _ _ => rfl)) (wpe_ix ix_tup (wpv 0) wpe_int (fun _ _ => rfl)))) (wpa_c (wpe_op op_mulK (wpe_ix ix_tup (wpv 0) wpe_int (fun _ _ => rfl)) (wpe_ix ix_tup (wpv 1) wpe_int (fun _ _ => rfl))) wpa_nil))))), ?_⟩
    refine ⟨_, rfl, a1, _, _, _, rfl, rfl, h1, rfl, _, rfl, a2, _, _, _, rfl, rfl, h2, rfl, _, _, rfl, rfl, ⟨bd_mono sa.1 l1, bd_mono sb.dI l2⟩, ?_⟩
    refine ⟨_, rfl, a2, _, _, _, rfl, rfl, h2, rfl, _, rfl, a1, _, _, _, rfl, rfl, h1, rfl, _, _, rfl, rfl, ⟨bd_mono sb.1 l2, bd_mono sa.dI l1⟩, _, _, rfl, rfl, ?_⟩
    refine ⟨_, rfl, a1, _, _, _, rfl, rfl, h1, rfl, _, rfl, a2, _, _, _, rfl, rfl, h2, rfl, _, _, rfl, rfl, ⟨bd_mono sa.dI l1, bd_mono sb.dI l2⟩, ?_⟩
    refine ⟨_, _, rfl, Int.mul_ne_zero (den_ne a) (den_ne b), bd_mono (bd_mul sa.dI sb.dI) (by decide), fun p H' S hp => q p H' S ?_⟩
    rw [plus_val] at hp
    exact hp
theorem ok_totalR {f fP aN aO : Addr} {t8 : Tok} {fd fdP : FuncData} (C : Cst K mg aN aO t8) (C_plus : FnOk P w K mg base CX0 3 fP fdP p_plus (spPlusR K)) (G : Df K mg "total" s_total p_total f fd) (G_plus : Df K mg "plus" s_plus p_plus fP fdP) : FnOk P w K mg base CX0 4 f fd p_total (spTotR K) := by
  refine G.F.okW sc_total (fun vs H Q E h => ?_) (fun cdv A outer s H vs Q E hr h => ?_)
  · obtain ⟨a, ys, qs, rfl, _⟩ := h
    rfl
  · obtain ⟨a, ys, qs, rfl, ha, hys, h9, hq, q⟩ := h
    have hr_plus := hr
    have hl : ys.length = qs.length := by rw [hys.length, List.length_map]
    refine ⟨_, (wpss_cons (wps_set (i := 1) sc_total.nd rfl (Or.inl rfl) (wpe_glob (v := .ref aN) rfl C.mN rfl)) (wpss_cons (wps_for PassesOwn.never rfl (wpi_list (wpv 0)) (wpg_name (i := 2) sc_total.nd rfl (Or.inl rfl)) (wpss_one (wps_set (i := 1) sc_total.nd rfl (Or.inl rfl) (wpe_callF C_plus hr_plus rfl G_plus.m G_plus.F.kp G_plus.b pass0 (wpa_c (wpv 1) (wpa_c (wpv 2) wpa_nil)))))) (wpss_one (wps_ret (wpv 1))))), ?_⟩
    refine ⟨_, rfl, a, rfl, ⟨_, ha⟩, for_list (K := K) (a := a) (xs := ys) (fun i σ H2 => ∃ (v1 : V) (o2 : Option V), σ = [some (.ref a), some v1, o2] ∧ Same H H2 ∧ DatAt K H2 v1 (ratD (sumQ (qs.take i))) ∧ Sm (1 + i * 201) (sumQ (qs.take i)))
      ⟨.ref aN, none, rfl, Same.refl H, datR_mk (q := 0) (C.sN H), ⟨(by show 0 < 2; decide), (by show 1 < 2; decide)⟩⟩ (fun i σ H2 _ ⟨_, _, _, S, _⟩ => S.seq ha) ?_ ?_⟩
    · rintro i x σ H2 hx ⟨v1, o2, rfl, S2, h1, hs1⟩
      obtain ⟨d, hd, hxd⟩ := hys.get' hx
      rw [List.getElem?_map] at hd
      have hi : i < qs.length := by rw [← hl]; exact (List.getElem?_eq_some_iff.mp hx).1
      rw [List.getElem?_eq_getElem hi] at hd
      cases hd
      have hqi := hq qs[i] (List.getElem_mem hi)
      have h8 : 1 + i * 201 ≤ 3000 := by omega
      refine ⟨_, rfl, _, rfl, v1, x, _, _, rfl, h1, hxd.same S2, hs1.mono h8, hqi, fun p H3 S3 hp => ?_⟩
      have e : sumQ (qs.take (i + 1)) = sumQ (qs.take i) + qs[i] := by rw [List.take_succ_eq_append_getElem hi, sumQ_app]
      refine ⟨p, _, rfl, S2.trans S3, by rw [e]; exact hp, ?_⟩
      rw [e]
      exact (sm_plus hs1 hqi).mono (by omega)
    · rintro σ H2 ⟨v1, o2, rfl, S2, h1, hs1⟩
      rw [hl, List.take_length] at h1 hs1
      exact ⟨_, rfl, q v1 H2 S2 h1 (hs1.mono (by omega))⟩
theorem ok_is_spreadV {f fP fT aN aO : Addr} {t8 : Tok} {fd fdP fdT : FuncData} (B : Bn mg) (C : Cst K mg aN aO t8) (C_is_pair : FnOk P w K mg base CX0 3 fP fdP p_is_pair (spPairV K)) (C_total : FnOk P w K mg base CX0 4 fT fdT p_total (spTotR K)) (G : Df K mg "is_spread" s_is_spread p_is_spread f fd)
    (G_is_pair : Df K mg "is_pair" s_is_pair p_is_pair fP fdP) (G_total : Df K mg "total" s_total p_total fT fdT) : FnOk P w K mg base CX0 5 f fd p_is_spread (spSprV K) := by
  refine G.F.okW sc_is_spread (fun vs H Q E h => ?_) (fun cdv A outer s H vs Q E hr h => ?_)
  · obtain ⟨v, l, n, rfl, _⟩ := h
    rfl
  · obtain ⟨v, l, n, rfl, hv, hs, q⟩ := h
    have hr_is_pair : Room 3 _ := hr.mono (by decide)
    have hr_total : Room 4 _ := hr
    have h3 := hs.few.2
    obtain ⟨a, vs, rfl, ha, hlen, hsp⟩ := dat_sp hv
    refine ⟨_, (wpss_cons (wps_if (wpt_not (wpt_val (wpe_callBF call_isD rfl B.isinstance PyProof.Rows.boot_isinstance (wpa_c (wpv 0) (wpa_c (wpe_bltn (v := .ty "tuple") rfl B.tuple PyProof.Rows.boot_tuple rfl) wpa_nil))))) (wpss_one (wps_ret wpe_bl)) wpss_nil) (wpss_cons (wps_set (i := 2) sc_is_spread.nd rfl (Or.inl rfl) (wpe_un un_neg wpe_int)) (wpss_cons (wps_set (i := 3) sc_is_spread.nd rfl (Or.inl rfl) (wpe_lstN wpa_nil)) (wpss_cons (wps_for PassesOwn.never rfl (wpi_tup (wpv 0)) (wpg_name (i := 4) sc_is_spread.nd rfl (Or.inl rfl)) (wpss_cons (wps_if (wpw_pt (wpw_or (wpt_not (wpt_val (wpe_callF C_is_pair hr_is_pair rfl G_is_pair.m G_is_pair.F.kp G_is_pair.b pass0 (wpa_c (wpv 4) (wpa_c (wpv 1) wpa_nil))))) (wpw_or1 (wpt_cmpR op_le (wpe_ix ix_tup (wpv 4) wpe_int (fun _ _ => rfl)) (wpv 2) (nomark _))))) (wpss_one (wps_ret wpe_bl)) wpss_nil) (wpss_cons (wps_set (i := 2) sc_is_spread.nd rfl (Or.inl rfl) (wpe_ix ix_tup (wpv 4) wpe_int (fun _ _ => rfl))) (wpss_one (wps_expr (wpe_bmF PySem.F.plainAttrs_list PySem.F.slot_list_append PySem.F.type_list_append mt_append (wpv 3) (wpa_c (wpe_ix ix_tup (wpv 4) wpe_int (fun _ _ => rfl)) wpa_nil))))))) (wpss_one (wps_ret (wpe_cmpR (op_eqD (hu60 hr)) (wpe_callF C_total hr_total rfl G_total.m G_total.F.kp G_total.b pass0 (wpa_c (wpv 3) wpa_nil)) (wpe_glob (v := .ref aO) rfl C.mO rfl) (nomark _)))))))), ?_⟩
    refine ⟨_, rfl, .ref a, _, _, _, rfl, hv, kit_tuple _, _, rfl, iteF ?_⟩
    refine ⟨_, rfl, (by show 0 ≤ sizeLine; exact Nat.zero_le _), fun b H1 hb S1 hb1 => ?_⟩
    refine ⟨_, rfl, a, rfl, ⟨_, S1.seqT ha⟩, for_tup (K := K) (a := a) (xs := vs) (fun i σ H2 => ∃ (last : Int) (ys : List V) (o4 : Option V), σ = [some (.ref a), some (.int n), some (.int last), some (.ref b), o4] ∧ Same H H2 ∧ H2 b = some (.lst ys) ∧ DatsAt K H2 ys ((l.take i).map fun p => ratD p.2) ∧ ∀ (j : Nat) (p : Nat × Rat), i ≤ j → l[j]? = some p → last < (p.1 : Int))
      ⟨-1, [], none, rfl, S1, hb1, .nil, fun j p _ _ => by omega⟩ (fun i σ H2 _ ⟨_, _, _, _, S, _⟩ => S.seqT ha) ?_ ?_⟩
    · rintro i x σ H2 hx ⟨last, ys, o4, rfl, S2, hb2, hys, hlast⟩
      obtain ⟨p, hp, hpd⟩ := hsp i x hx
      obtain ⟨pa, sv, rfl, hpa, hsv⟩ := dat_pair hpd
      have hpm : p ∈ l := List.mem_of_getElem? hp
      obtain ⟨hil, hpi⟩ := List.getElem?_eq_some_iff.mp hp
      have hpa2 := S2.seqT hpa
      have hl1 := hlast i p (Nat.le_refl _) hp
      refine ⟨_, rfl, _, rfl, .ref pa, p.1, n, p.2, rfl, hpd.same S2, hs.room p hpm, hs.pos p hpm, _, rfl, iteF ?_⟩
      refine ⟨_, rfl, pa, _, _, _, rfl, rfl, hpa2, rfl, _, rfl, _, _, rfl, rfl, _, rfl, decF (Int.not_le.mpr hl1) ?_⟩
      refine ⟨_, rfl, pa, _, _, _, rfl, rfl, hpa2, rfl, ?_⟩
      have hyl : ys.length ≤ 6 := by rw [hys.length, List.length_map, List.length_take]; omega
      refine ⟨_, rfl, .inl ⟨rfl, _, SqL.of hb2⟩, _, rfl, pa, _, _, _, rfl, rfl, hpa2, rfl, b, ys, _, rfl, rfl, hb2, small1000 (by omega), ?_⟩
      refine ⟨_, ys ++ [sv], _, rfl, S2.fresh_upd hb _, upd_same, ?_, fun j p' hj hp' => ?_⟩
      · rw [List.take_succ_eq_append_getElem hil, List.map_append, hpi]
        refine (DatsAt.kp ⟨_, hb2⟩ (kp_upd _) (noLs_all fun j d h => ?_) hys).append (.cons (DatAt.kp ⟨_, hb2⟩ (kp_upd _) rfl (hsv.same S2)) .nil)
        rw [List.getElem?_map] at h
        cases e : (l.take i)[j]? with
        | none => rw [e] at h; cases h
        | some y => rw [e] at h; cases h; rfl
      · obtain ⟨hj1, e2⟩ := List.getElem?_eq_some_iff.mp hp'
        have := List.pairwise_iff_getElem.mp hs.rise i j (by rw [List.length_map]; exact hil) (by rw [List.length_map]; exact hj1) hj
        rw [List.getElem_map, List.getElem_map, hpi, e2] at this
        exact Int.ofNat_lt.mpr this
    · rintro σ H2 ⟨last, ys, o4, rfl, S2, hb2, hys, _⟩
      rw [hlen, List.take_length] at hys
      have e : l.map (fun p => ratD p.2) = (l.map (·.2)).map ratD := by rw [List.map_map]; rfl
      rw [e] at hys
      refine ⟨_, rfl, b, ys, l.map (·.2), rfl, SqL.of hb2, hys, by rw [List.length_map]; omega, fun x hx => ?_, fun p H3 S3 hp _ => ?_⟩
      · obtain ⟨y, hy, rfl⟩ := List.mem_map.mp hx
        exact hs.sm200 hy
      · rw [sumQ_sh, hs.one] at hp
        refine ⟨_, _, .inl ⟨_, _, rfl, rfl⟩, hp, datR_mk (q := 1) (C.sO H3), (by decide), ?_⟩
        rw [eqD_refl]
        exact q H3 (S2.trans S3)
theorem ok_is_walkV {f fS aN aO : Addr} {t8 : Tok} {fd fdS : FuncData} (B : Bn mg) (C : Cst K mg aN aO t8) (C_is_spread : FnOk P w K mg base CX0 5 fS fdS p_is_spread (spSprV K)) (G : Df K mg "is_walk" s_is_walk p_is_walk f fd) (G_is_spread : Df K mg "is_spread" s_is_spread p_is_spread fS fdS) : FnOk P w K mg base CX0 6 f fd p_is_walk (spWlkV K) := by
  refine G.F.okW sc_is_walk (fun vs H Q E h => ?_) (fun cdv A outer s H vs Q E hr h => ?_)
  · obtain ⟨v, ws, rfl, _⟩ := h
    rfl
  · obtain ⟨v, ws, rfl, hv, hok, q⟩ := h
    have hr_is_spread := hr
    have h8 := hok.n8
    have h1 := hok.n1
    obtain ⟨a, vs, rfl, ha, hlen, hsp⟩ := dat_wk hv
    refine ⟨_, (wpss_cons (wps_if (wpw_pt (wpw_or (wpt_not (wpt_val (wpe_callBF call_isD rfl B.isinstance PyProof.Rows.boot_isinstance (wpa_c (wpv 0) (wpa_c (wpe_bltn (v := .ty "tuple") rfl B.tuple PyProof.Rows.boot_tuple rfl) wpa_nil))))) (wpw_or1 (wpt_not (wpt_chain op_le op_le wpe_int (wpe_callBF call_len_seq rfl B.len PySem.boot_len (wpa_c (wpv 0) wpa_nil)) (wpe_glob (v := .int 8) rfl C.m8 ⟨_, rfl⟩)))))) (wpss_one (wps_ret wpe_bl)) wpss_nil) (wpss_one (wps_ret (wpe_callBF (call_all_list rfl) rfl B.all PyProof.Rows.boot_all (wpa_c (wpe_comp (NB := ["spread", "thing"]) (n := 1) (capN := [0]) (by exact ⟨rfl, by decide, rfl, by decide, ⟨rfl, trivial⟩, rfl, rfl, rfl, rfl, rfl⟩) rfl (gk_name (by decide)) (wpi_tup (wpv 0)) (fun _ _ _ _ => (wpg_name (i := 0) (show (["spread", "thing"] : List Str).Nodup by decide +kernel) rfl (Or.inl rfl))) (fun _ _ _ _ => wpts_nil) (fun _ _ _ _ => (wpe_callF C_is_spread hr_is_spread rfl G_is_spread.m G_is_spread.F.kp G_is_spread.b pass0 (wpa_c (wpv 0) (wpa_c (wpe_callBF (call_len_K (K := K) rfl) rfl B.len PySem.boot_len (wpa_c (wpv 1) wpa_nil)) wpa_nil))))) wpa_nil))))), ?_⟩
    refine ⟨_, rfl, .ref a, _, _, _, rfl, hv, kit_tuple _, _, rfl, iteF ?_⟩
    refine ⟨_, rfl, a, vs, rfl, .inr ha, _, _, rfl, rfl, _, rfl, decT (by omega) ?_⟩
    refine ⟨_, _, rfl, rfl, _, rfl, ndF (by omega) ?_⟩
    refine ⟨_, rfl, a, rfl, ⟨_, ha⟩, fun p hp => ?_⟩
    refine comp_datT (K := K) (fun _ dd => dd = .bl true) hp ha (Nat.le_of_lt (small1000 (by omega))) (by rintro j d rfl; rfl) ?_ ?_
    · intro j x H1 RR hx S1 kk
      have hj : j < ws.length := by rw [← hlen]; exact (List.getElem?_eq_some_iff.mp hx).1
      obtain ⟨x', hx', hxd⟩ := hsp j hj
      rw [hx] at hx'
      cases hx'
      refine ⟨_, rfl, _, rfl, a, vs, rfl, .inr (S1.seqT ha), x, _, ws.length, (by rw [hlen]; rfl), hxd.same S1, hok.sp _ (getD_mem hj), fun H2 S2 => kk _ H2 _ S2 (.bl _) rfl⟩
    · intro ys H1 es S1 hp1 hl1 hes hdd
      have ee : es = (List.replicate ws.length true).map D.bl := by
        apply List.ext_getElem?
        intro j
        by_cases hj : j < ws.length
        · have e := List.getElem?_eq_getElem (l := es) (i := j) (by omega)
          rw [e, hes j _ e]
          simp [hj]
        · rw [List.getElem?_eq_none (by omega), List.getElem?_eq_none (by simp; omega)]
      rw [ee] at hdd
      have ey := dats_bl hdd
      subst ey
      refine ⟨p, _, rfl, SqL.of hp1, ?_⟩
      rw [show (List.replicate ws.length true).all id = true by simp]
      exact q H1 S1
theorem ok_checkedV {f fW : Addr} {fd fdW : FuncData} (C_is_walk : FnOk P w K mg base CX0 6 fW fdW p_is_walk (spWlkV K)) (G : Df K mg "checked" s_checked p_checked f fd) (G_is_walk : Df K mg "is_walk" s_is_walk p_is_walk fW fdW) : FnOk P w K mg base CX0 7 f fd p_checked (spChkV K) := by
  refine G.F.okW sc_checked (fun vs H Q E h => ?_) (fun cdv A outer s H vs Q E hr h => ?_)
  · obtain ⟨v, ws, rfl, _⟩ := h
    rfl
  · obtain ⟨v, ws, rfl, hv, hok, q⟩ := h
    have hr_is_walk := hr
    refine ⟨_, (wpss_cons (wps_if (wpt_not (wpt_val (wpe_callF C_is_walk hr_is_walk rfl G_is_walk.m G_is_walk.F.kp G_is_walk.b pass0 (wpa_c (wpv 0) wpa_nil)))) (wpss_one wps_never) wpss_nil) (wpss_one (wps_ret (wpv 0)))), ?_⟩
    exact ⟨_, rfl, v, ws, rfl, hv, hok, fun H1 S1 => ⟨_, rfl, iteF ⟨_, rfl, q H1 S1⟩⟩⟩
end
end Lw

namespace Lw
open PySem L2
def nl (l : List Nat) : List V := l.map fun k : Nat => V.int (k : Int)
theorem nl_len (l : List Nat) : (nl l).length = l.length := by simp [nl]
theorem nl_get {l : List Nat} {i k : Nat} (h : l[i]? = some k) : (nl l)[i]? = some (.int (k : Int)) := by simp [nl, h]
theorem nl_get' {l : List Nat} {i : Nat} {v : V} (h : (nl l)[i]? = some v) : ∃ k, l[i]? = some k ∧ v = .int (k : Int) := by
  unfold nl at h
  rw [List.getElem?_map] at h
  cases e : l[i]? with
  | none => rw [e] at h; cases h
  | some k => rw [e] at h; cases h; exact ⟨k, rfl, rfl⟩
theorem nl_ints (l : List Nat) : nl l = (l.map fun k : Nat => (k : Int)).map V.int := by simp [nl, Function.comp_def]
theorem nl_at {l : List Nat} {i : Nat} (h : i < l.length) : (nl l)[i]? = some (.int (l.getD i 0 : Nat)) := by
  refine nl_get ?_
  rw [List.getD_eq_getElem?_getD, List.getElem?_eq_getElem h]
  rfl
end Lw
namespace Lw
open PySem L2
theorem datNl {K : PySem.W.Frag} {H : Hp} {a : Addr} {gs : List Nat} (h : SqL K H a (nl gs)) : DatAt K H (.ref a) (.lst ((gs.map fun k : Nat => (k : Int)).map D.int)) := .lst (by rw [← nl_ints]; exact h) (datsInts _)
end Lw
namespace Lw
open PySem L2
theorem eqD_rat (a b : Rat) : eqD (ratD a) (ratD b) = decide (a = b) := by
  by_cases e : a = b
  · subst e
    rw [eqD_refl, decide_eq_true rfl]
  · rw [decide_eq_false e]
    cases h : eqD (ratD a) (ratD b) with
    | false => rfl
    | true =>
      exfalso
      unfold ratD at h
      simp only [eqD, eqDs, Bool.and_true, Bool.and_eq_true, beq_iff_eq] at h
      exact e (Rat.ext h.1 (by have := h.2; omega))
def dl (n : Nat) (f : Nat → D) : List D := (List.range n).map f
theorem dl_len (n : Nat) (f : Nat → D) : (dl n f).length = n := by simp [dl]
theorem dl_get {n : Nat} {f : Nat → D} {j : Nat} (h : j < n) : (dl n f)[j]? = some (f j) := by simp [dl, h]
theorem eqN_nats : ∀ {a b : List Nat}, eqDs ((a.map fun k : Nat => (k : Int)).map D.int) ((b.map fun k : Nat => (k : Int)).map D.int) = true → a = b
  | [], [], _ => rfl
  | [], _ :: _, h => by simp [eqDs] at h
  | _ :: _, [], h => by simp [eqDs] at h
  | x :: s, y :: t, h => by
    simp only [List.map_cons, eqDs, eqD, Bool.and_eq_true, beq_iff_eq] at h
    rw [eqN_nats h.2, Int.ofNat.inj h.1]
def intsD (l : List Nat) : D := .lst ((l.map fun k : Nat => (k : Int)).map D.int)
theorem eqD_ints (a b : List Nat) : eqD (intsD a) (intsD b) = decide (a = b) := by
  by_cases e : a = b
  · subst e; rw [eqD_refl, decide_eq_true rfl]
  · rw [decide_eq_false e]
    cases h : eqD (intsD a) (intsD b) with
    | false => rfl
    | true => exact absurd (eqN_nats h) e
theorem depInts (gs : List Nat) : depD (intsD gs) ≤ 50 := by
  unfold intsD
  simp only [depD]
  rw [dep_ints]
  decide
theorem nats_of {K : PySem.W.Frag} {H : Hp} : ∀ {ys : List V} {ds : List D}, DatsAt K H ys ds → (∀ d ∈ ds, ∃ k : Nat, d = .int k) → ∃ σ : List Nat, ys = nl σ ∧ ds = σ.map fun k : Nat => L2.D.int k
  | _, _, .nil, _ => ⟨[], rfl, rfl⟩
  | _, _, .cons h t, hk => by
    obtain ⟨k, rfl⟩ := hk _ List.mem_cons_self
    obtain ⟨σ, e1, e2⟩ := nats_of t fun d hd => hk d (List.mem_cons_of_mem _ hd)
    cases h
    exact ⟨k :: σ, by rw [e1]; rfl, by rw [e2]; rfl⟩
theorem all_bl {n : Nat} {es : List D} {K : PySem.W.Frag} {H : Hp} {ys : List V} (hl : es.length = n) (hes : ∀ (j : Nat) d, es[j]? = some d → d = .bl true) (hd : DatsAt K H ys es) : ∃ bs : List Bool, ys = bs.map V.bl ∧ bs.all id = true := by
  have ee : es = (List.replicate n true).map D.bl := by
    apply List.ext_getElem?
    intro j
    by_cases hj : j < n
    · have e := List.getElem?_eq_getElem (l := es) (i := j) (by omega)
      rw [e, hes j _ e]
      simp [hj]
    · rw [List.getElem?_eq_none (by omega), List.getElem?_eq_none (by simp; omega)]
  rw [ee] at hd
  exact ⟨_, dats_bl hd, by simp⟩
theorem noL_spD (l : List (Nat × Rat)) : noL (spD l) = true := by
  unfold spD
  simp only [noL]
  refine noLs_all fun i d h => ?_
  rw [List.getElem?_map] at h
  cases e : l[i]? with
  | none => rw [e] at h; cases h
  | some p => rw [e] at h; cases h; rfl
end Lw

namespace Lw
/-! ### parting, turn by turn -/
/-- j is the least that is R to i -/
structure Lst (n : Nat) (R : Nat → Nat → Prop) (i j : Nat) : Prop where
  lt : j < n
  r : R j i
  no : ∀ k, k < j → ¬ R k i
theorem Lst.uniq {n : Nat} {R : Nat → Nat → Prop} {i j k : Nat} (a : Lst n R i j) (b : Lst n R i k) : j = k := by
  rcases Nat.lt_trichotomy j k with h | h | h
  · exact absurd a.r (b.no j h)
  · exact h
  · exact absurd b.r (a.no k h)
theorem Lst.of {n : Nat} {R R' : Nat → Nat → Prop} {i j : Nat} (hi : i < n) (a : Lst n R i j) (h : ∀ k, k < n → (R k i ↔ R' k i)) : Lst n R' i j :=
  ⟨a.lt, (h j a.lt).mp a.r, fun k hk z => a.no k hk ((h k (Nat.lt_trans hk a.lt)).mpr z)⟩
section
variable {n : Nat} {P : Nat → Nat → Rat} {f g f' f'' : Nat → Nat}
/-- the share of i into those that are called c -/
def sIn (n : Nat) (P : Nat → Nat → Rat) (f : Nat → Nat) (i c : Nat) : Rat := sumN n (fun j => if f j = c then P i j else 0)
def Sg (n : Nat) (P : Nat → Nat → Rat) (f : Nat → Nat) (i j : Nat) : Prop := f i = f j ∧ ∀ c, sIn n P f i c = sIn n P f j c
/-- the next parting -/
def Nxt (n : Nat) (P : Nat → Nat → Rat) (f f' : Nat → Nat) : Prop := ∀ i, i < n → Lst n (Sg n P f) i (f' i)
/-- the same sets -/
def Eqv (n : Nat) (f g : Nat → Nat) : Prop := ∀ i j, i < n → j < n → (f i = f j ↔ g i = g j)
theorem sIn_eqv (h : Eqv n f g) {i j : Nat} (hs : ∀ c, sIn n P f i c = sIn n P f j c) : ∀ c, sIn n P g i c = sIn n P g j c := fun c => by
  by_cases hc : ∃ k, k < n ∧ g k = c
  · obtain ⟨k, hk, rfl⟩ := hc
    have e : ∀ i, sIn n P g i (g k) = sIn n P f i (f k) := fun i => sumN_congr fun j hj => by
      by_cases z : g j = g k
      · rw [if_pos z, if_pos ((h j k hj hk).mpr z)]
      · rw [if_neg z, if_neg fun y => z ((h j k hj hk).mp y)]
    rw [e i, e j]
    exact hs (f k)
  · have e : ∀ i, sIn n P g i c = 0 := fun i => by
      unfold sIn
      rw [sumN_congr (g := fun _ => 0) fun j hj => if_neg fun z => hc ⟨j, hj, z⟩, sumN_zero]
    rw [e i, e j]
theorem Sg.eqv (h : Eqv n f g) {i j : Nat} (hi : i < n) (hj : j < n) : Sg n P f i j ↔ Sg n P g i j := by
  have h' : Eqv n g f := fun a b ha hb => (h a b ha hb).symm
  exact ⟨fun z => ⟨(h i j hi hj).mp z.1, sIn_eqv h z.2⟩, fun z => ⟨(h i j hi hj).mpr z.1, sIn_eqv h' z.2⟩⟩
theorem Nxt.eqv (h : Eqv n f g) (a : Nxt n P f f') (b : Nxt n P g f'') : ∀ i, i < n → f' i = f'' i := fun i hi =>
  ((a i hi).of hi fun k hk => Sg.eqv h hk hi).uniq (b i hi)
theorem Sg.symm {i j : Nat} (h : Sg n P f i j) : Sg n P f j i := ⟨h.1.symm, fun c => (h.2 c).symm⟩
theorem Sg.trans {i j k : Nat} (h : Sg n P f i j) (h2 : Sg n P f j k) : Sg n P f i k := ⟨h.1.trans h2.1, fun c => (h.2 c).trans (h2.2 c)⟩
theorem Nxt.iff (a : Nxt n P f f') {i j : Nat} (hi : i < n) (hj : j < n) : f' i = f' j ↔ Sg n P f i j := by
  constructor
  · intro e
    have h1 := (a i hi).r
    have h2 := (a j hj).r
    rw [← e] at h2
    exact h1.symm.trans h2
  · intro e
    exact ((a i hi).of (R' := fun k _ => Sg n P f k j) hi fun k _ => ⟨fun z => z.trans e, fun z => z.trans e.symm⟩).uniq ⟨(a j hj).lt, (a j hj).r, (a j hj).no⟩
/-- names by the least one -/
def Nm (n : Nat) (f : Nat → Nat) : Prop := ∀ i, i < n → Lst n (fun k i => f k = f i) i (f i)
theorem Nxt.nm (a : Nxt n P f f') : Nm n f' := fun i hi => (a i hi).of hi fun k hk => (a.iff hk hi).symm
theorem Nxt.fine (a : Nxt n P f f') {i j : Nat} (hi : i < n) (hj : j < n) (e : f' i = f' j) : f i = f j := ((a.iff hi hj).mp e).1
def reps (n : Nat) (f : Nat → Nat) : List Nat := (List.range n).filter fun i => decide (f i = i)
theorem fcl {α : Type} {p q : α → Bool} : ∀ {l : List α}, (∀ x ∈ l, p x = true → q x = true) → (l.filter p).length ≤ (l.filter q).length
  | [], _ => Nat.le_refl _
  | z :: s, h => by
    have := fcl (l := s) fun x hx => h x (List.mem_cons_of_mem _ hx)
    have hz := h z List.mem_cons_self
    cases e : p z with
    | true => rw [List.filter_cons_of_pos e, List.filter_cons_of_pos (hz e)]; simp; omega
    | false =>
      rw [List.filter_cons_of_neg (by simp [e])]
      exact Nat.le_trans this (List.Sublist.length_le (List.Sublist.filter _ (List.sublist_cons_self _ _)))
theorem fce {α : Type} {p q : α → Bool} : ∀ {l : List α}, (∀ x ∈ l, p x = true → q x = true) → (l.filter q).length ≤ (l.filter p).length → ∀ x ∈ l, q x = true → p x = true
  | [], _, _, x, hx, _ => by cases hx
  | z :: s, h, hl, x, hx, hq => by
    have hs := fun x hx => h x (List.mem_cons_of_mem z hx)
    have hz := h z List.mem_cons_self
    have le := fcl hs
    cases e : p z with
    | true =>
      rw [List.filter_cons_of_pos e, List.filter_cons_of_pos (hz e)] at hl
      rcases List.mem_cons.mp hx with rfl | hx
      · exact e
      · exact fce hs (by simpa using hl) x hx hq
    | false =>
      rw [List.filter_cons_of_neg (p := p) (by simp [e])] at hl
      cases e2 : q z with
      | true => rw [List.filter_cons_of_pos e2] at hl; simp at hl; omega
      | false =>
        rw [List.filter_cons_of_neg (p := q) (by simp [e2])] at hl
        rcases List.mem_cons.mp hx with rfl | hx
        · rw [e2] at hq; cases hq
        · exact fce hs hl x hx hq
theorem reps_sub (nf : Nm n f) (nf' : Nm n f') (fine : ∀ i j, i < n → j < n → f' i = f' j → f i = f j) : ∀ i ∈ List.range n, decide (f i = i) = true → decide (f' i = i) = true := fun i hi e => by
  have hi : i < n := by simpa using hi
  have e := of_decide_eq_true e
  refine decide_eq_true ?_
  have h' := nf' i hi
  have e2 := fine _ _ h'.lt hi h'.r
  rcases Nat.lt_trichotomy (f' i) i with z | z | z
  · have := (nf i hi).no (f' i) (by rw [e]; exact z)
    exact absurd e2 this
  · exact z
  · exact absurd rfl (h'.no i z)
/-- no more sets: the same -/
theorem reps_eq (nf : Nm n f) (nf' : Nm n f') (fine : ∀ i j, i < n → j < n → f' i = f' j → f i = f j) (h : (reps n f').length ≤ (reps n f).length) : ∀ i, i < n → f' i = f i := fun i hi => by
  have key := fce (reps_sub nf nf' fine) h
  have h' := nf' i hi
  have a : f' (f' i) = f' i := h'.r
  have b := of_decide_eq_true (key (f' i) (by simpa using h'.lt) (decide_eq_true a))
  have c := fine _ _ h'.lt hi h'.r
  rw [← c, b]
theorem reps_le (n : Nat) (f : Nat → Nat) : (reps n f).length ≤ n := by
  have := List.length_filter_le (fun i => decide (f i = i)) (List.range n)
  simpa [reps] using this
theorem reps_grow (nf : Nm n f) (nf' : Nm n f') (fine : ∀ i j, i < n → j < n → f' i = f' j → f i = f j) (ne : ¬ ∀ i, i < n → f' i = f i) : (reps n f).length < (reps n f').length := by
  rcases Nat.lt_or_ge (reps n f).length (reps n f').length with h | h
  · exact h
  · exact absurd (reps_eq nf nf' fine h) ne
theorem reps_pos (nf : Nm n f) (hn : 0 < n) : 1 ≤ (reps n f).length := by
  have h := nf 0 hn
  have e : f 0 = 0 := by
    rcases Nat.eq_zero_or_pos (f 0) with z | z
    · exact z
    · exact absurd rfl (h.no 0 z)
  have : (0 : Nat) ∈ reps n f := List.mem_filter.mpr ⟨by simpa using hn, decide_eq_true e⟩
  exact List.length_pos_of_mem this
/-- a chain of partings -/
def Chn (n : Nat) (P : Nat → Nat → Rat) (c : Nat → Nat → Nat) (k : Nat) : Prop := ∀ t, t < k → Nxt n P (c t) (c (t + 1))
theorem chn_fix {c : Nat → Nat → Nat} {k : Nat} (h : Chn n P c k) (hn : 0 < n) (h0 : Nm n (c 0)) {t : Nat} (ht : t ≤ k) : (∃ u, u < t ∧ ∀ i, i < n → c (u + 1) i = c u i) ∨ t + 1 ≤ (reps n (c t)).length := by
  induction t with
  | zero => exact .inr (reps_pos h0 hn)
  | succ t ih =>
    rcases ih (by omega) with ⟨u, hu, e⟩ | e
    · exact .inl ⟨u, by omega, e⟩
    · have a := h t (by omega)
      have nmt : Nm n (c t) := by
        cases t with
        | zero => exact h0
        | succ s => exact (h s (by omega)).nm
      by_cases z : ∀ i, i < n → c (t + 1) i = c t i
      · exact .inl ⟨t, by omega, z⟩
      · have := reps_grow nmt a.nm (fun i j hi hj => a.fine hi hj) z
        exact .inr (by omega)
theorem chn_stay {c : Nat → Nat → Nat} {k u : Nat} (h : Chn n P c k) (hu : u < k) (e : ∀ i, i < n → c (u + 1) i = c u i) : ∀ t, u ≤ t → t ≤ k → ∀ i, i < n → c t i = c u i := by
  intro t
  induction t with
  | zero => intro h1 _ i _; rw [show u = 0 by omega]
  | succ t ih =>
    intro h1 h2 i hi
    rcases Nat.lt_or_ge t u with z | z
    · rw [show t + 1 = u by omega]
    · have := ih z (by omega)
      have eq : Eqv n (c t) (c u) := fun a b ha hb => by rw [this a ha, this b hb]
      rw [Nxt.eqv eq (h t (by omega)) (h u hu) i hi, e i hi]
/-- what stands still at all is what stands behind n turns -/
theorem chn_end {c : Nat → Nat → Nat} {k : Nat} (hn : 0 < n) (h0 : Nm n (c 0)) (h : Chn n P c (max k n)) (hk : 0 < k) (e : ∀ i, i < n → c k i = c (k - 1) i) : ∀ i, i < n → c k i = c n i := fun i hi => by
  have e' : ∀ i, i < n → c (k - 1 + 1) i = c (k - 1) i := by rw [show k - 1 + 1 = k by omega]; exact e
  rcases Nat.lt_or_ge n k with z | z
  · -- it stood still before
    rcases chn_fix h hn h0 (t := n) (by omega) with ⟨u, hu, e2⟩ | e2
    · rw [chn_stay h (by omega) e2 k (by omega) (by omega) i hi, chn_stay h (by omega) e2 n (by omega) (by omega) i hi]
    · have := reps_le n (c n)
      omega
  · rw [chn_stay h (by omega) e' k (by omega) (by omega) i hi, chn_stay h (by omega) e' n (by omega) (by omega) i hi]
end
end Lw

namespace Lw
open PySem L2
/-! ### likeness, in the program -/
def spMksV (K : PySem.W.Frag) : Sp := fun vs H Q _ => ∃ (a : Addr) (ms : List Nat), vs = [.ref a, .int ms.length] ∧ SqL K H a (nl ms) ∧ ms.length ≤ 8 ∧ ∀ H', Same H H' → Q (.bl true) H'
def spCkMV (K : PySem.W.Frag) : Sp := fun vs H Q _ => ∃ (a : Addr) (ms : List Nat), vs = [.ref a, .int ms.length] ∧ SqL K H a (nl ms) ∧ ms.length ≤ 8 ∧ ∀ H', Same H H' → Q (.ref a) H'
def spFp (K : PySem.W.Frag) : Sp := fun vs H Q _ => ∃ (a : Addr) (ys : List V) (ds : List D), vs = [.ref a] ∧ SqL K H a ys ∧ DatsAt K H ys ds ∧ (∀ e ∈ ds, depD e ≤ 50) ∧ ds.length ≤ 8 ∧
  ∀ m H' (ks : List Nat), H m = none → Same H H' → H' m = some (.lst (nl ks)) → ks.length = ds.length → (∀ i, i < ds.length → Lst ds.length (fun j i => eqD (ds.getD j .non) (ds.getD i .non) = true) i (ks.getD i 0)) → Q (.ref m) H'
/-- the first place of what is like d -/
theorem first_at {ds : List D} {i : Nat} {d : D} (h : ds[i]? = some d) : ∃ j, (∃ e, ds[j]? = some e ∧ eqD e d = true) ∧ (∀ (k : Nat) e, k < j → ds[k]? = some e → eqD e d = false) ∧ Lst ds.length (fun j i => eqD (ds.getD j .non) (ds.getD i .non) = true) i j := by
  have ex : ∃ e ∈ ds, eqD e d = true := ⟨d, List.mem_of_getElem? h, eqD_refl d⟩
  have hlt := List.findIdx_lt_length_of_exists (p := fun e => eqD e d) ex
  have hat := List.findIdx_getElem (p := fun e => eqD e d) (xs := ds) (w := hlt)
  have hno : ∀ (k : Nat) e, k < ds.findIdx (fun e => eqD e d) → ds[k]? = some e → eqD e d = false := fun k e hk he => by
    obtain ⟨hk2, e2⟩ := List.getElem?_eq_some_iff.mp he
    have := List.not_of_lt_findIdx hk
    rw [e2] at this
    simpa using this
  have gi : ds.getD i .non = d := by rw [List.getD_eq_getElem?_getD, h]; rfl
  have gj : ∀ k, (hk : k < ds.length) → ds.getD k .non = ds[k] := fun k hk => by rw [List.getD_eq_getElem?_getD, List.getElem?_eq_getElem hk]; rfl
  refine ⟨_, ⟨_, List.getElem?_eq_getElem hlt, hat⟩, hno, hlt, ?_, fun k hk => ?_⟩
  · rw [gi, gj _ hlt]
    exact hat
  · have hk2 : k < ds.length := Nat.lt_trans hk hlt
    rw [gi, gj _ hk2, hno k _ hk (List.getElem?_eq_getElem hk2)]
    exact Bool.false_ne_true
section
variable {P : Program} {w : World} {K : PySem.W.Frag} {mg : Str → Option Value} {base : Heap}
theorem ok_is_marks {f fW : Addr} {fd fdW : FuncData} (B : Bn mg) (C_is_whole : FnOk P w K mg base CX0 1 fW fdW p_is_whole (spWhole K)) (G : Df K mg "is_marks" s_is_marks p_is_marks f fd) (G_is_whole : Df K mg "is_whole" s_is_whole p_is_whole fW fdW) : FnOk P w K mg base CX0 2 f fd p_is_marks (spMksV K) := by
  refine G.F.okW sc_is_marks (fun vs H Q E h => ?_) (fun cdv A outer s H vs Q E hr h => ?_)
  · obtain ⟨a, ms, rfl, _⟩ := h
    rfl
  · obtain ⟨a, ms, rfl, ha, h8, q⟩ := h
    have hr_is_whole := hr
    refine ⟨_, (wpss_cons (wps_if (wpw_pt (wpw_or (wpt_not (wpt_val (wpe_callBF call_isD rfl B.isinstance PyProof.Rows.boot_isinstance (wpa_c (wpv 0) (wpa_c (wpe_bltn (v := .ty "list") rfl B.list PyProof.Rows.boot_list rfl) wpa_nil))))) (wpw_or1 (wpt_cmpR op_ne (wpe_callBF call_len_seq rfl B.len PySem.boot_len (wpa_c (wpv 0) wpa_nil)) (wpv 1) (nomark _))))) (wpss_one (wps_ret wpe_bl)) wpss_nil) (wpss_one (wps_ret (wpe_callBF (call_all_list rfl) rfl B.all PyProof.Rows.boot_all (wpa_c (wpe_comp (NB := ["mark"]) (n := 1) (capN := []) (by exact ⟨rfl, by decide, rfl, by decide, trivial, rfl, rfl, rfl, rfl, rfl⟩) rfl (gk_name (by decide)) (wpi_list (wpv 0)) (fun _ _ _ _ => (wpg_name (i := 0) (show (["mark"] : List Str).Nodup by decide +kernel) rfl (Or.inl rfl))) (fun _ _ _ _ => wpts_nil) (fun _ _ _ _ => (wpe_callF C_is_whole hr_is_whole rfl G_is_whole.m G_is_whole.F.kp G_is_whole.b pass0 (wpa_c (wpv 0) wpa_nil)))) wpa_nil))))), ?_⟩
    refine ⟨_, rfl, .ref a, _, _, _, rfl, datNl ha, kit_list _, _, rfl, iteF ?_⟩
    refine ⟨_, rfl, a, _, rfl, .inl ha, _, rfl, rfl, _, rfl, ndF (by rw [nl_len]) ?_⟩
    refine ⟨_, rfl, a, rfl, ⟨_, ha⟩, fun p hp => ?_⟩
    refine comp_datL (K := K) (fun _ dd => dd = .bl true) hp ha (by rw [nl_len]; exact Nat.le_of_lt (small1000 (by omega))) (by rintro j d rfl; rfl) ?_ ?_
    · intro j x H1 RR hx S1 kk
      obtain ⟨c, hc1, rfl⟩ := nl_get' hx
      exact ⟨_, rfl, .int c, .int c, rfl, .int _, kk _ H1 _ (Same.refl _) (.bl _) rfl⟩
    · intro ys H1 es S1 hp1 hl1 hes hdd
      obtain ⟨bs, rfl, hb⟩ := all_bl (n := (nl ms).length) hl1 hes hdd
      refine ⟨p, _, rfl, SqL.of hp1, ?_⟩
      rw [hb]
      exact q H1 S1
theorem ok_checked_marks {f fI : Addr} {fd fdI : FuncData} (C_is_marks : FnOk P w K mg base CX0 2 fI fdI p_is_marks (spMksV K)) (G : Df K mg "checked_marks" s_checked_marks p_checked_marks f fd) (G_is_marks : Df K mg "is_marks" s_is_marks p_is_marks fI fdI) : FnOk P w K mg base CX0 3 f fd p_checked_marks (spCkMV K) := by
  refine G.F.okW sc_checked_marks (fun vs H Q E h => ?_) (fun cdv A outer s H vs Q E hr h => ?_)
  · obtain ⟨a, ms, rfl, _⟩ := h
    rfl
  · obtain ⟨a, ms, rfl, ha, h8, q⟩ := h
    have hr_is_marks := hr
    refine ⟨_, (wpss_cons (wps_if (wpt_not (wpt_val (wpe_callF C_is_marks hr_is_marks rfl G_is_marks.m G_is_marks.F.kp G_is_marks.b pass0 (wpa_c (wpv 0) (wpa_c (wpv 1) wpa_nil))))) (wpss_one wps_never) wpss_nil) (wpss_one (wps_ret (wpv 0)))), ?_⟩
    exact ⟨_, rfl, _, rfl, a, ms, rfl, ha, h8, fun H1 S1 => ⟨_, rfl, iteF ⟨_, rfl, q H1 S1⟩⟩⟩
theorem ok_first_places {f : Addr} {fd : FuncData} (G : Df K mg "first_places" s_first_places p_first_places f fd) : FnOk P w K mg base CX0 1 f fd p_first_places (spFp K) := by
  refine G.F.okW sc_first_places (fun vs H Q E h => ?_) (fun cdv A outer s H vs Q E hr h => ?_)
  · obtain ⟨a, ys, ds, rfl, _⟩ := h
    rfl
  · obtain ⟨a, ys, ds, rfl, ha, hys, hdep, h8, q⟩ := h
    have hyl := hys.length
    refine ⟨_, (wpss_one (wps_ret (wpe_comp (NB := ["thing", "things"]) (n := 1) (capN := [0]) (by exact ⟨rfl, by decide, rfl, by decide, ⟨rfl, trivial⟩, rfl, rfl, rfl, rfl, rfl⟩) rfl (gk_name (by decide)) (wpi_list (wpv 0)) (fun _ _ _ _ => (wpg_name (i := 0) (show (["thing", "things"] : List Str).Nodup by decide +kernel) rfl (Or.inl rfl))) (fun _ _ _ _ => wpts_nil) (fun _ _ _ _ => (wpe_bmF_K (K := K) rfl PySem.F.plainAttrs_list PySem.F.slot_list_index PySem.F.type_list_index (mt_indexD_K (K := K) rfl (hu60 hr)) (wpv 1) (wpa_c (wpv 0) wpa_nil)))))), ?_⟩
    refine ⟨_, rfl, a, rfl, ⟨_, ha⟩, fun p hp => ?_⟩
    refine comp_datL (K := K) (fun i dd => ∃ k : Nat, dd = .int k ∧ Lst ds.length (fun j i => eqD (ds.getD j .non) (ds.getD i .non) = true) i k) hp ha (by rw [hyl]; exact Nat.le_of_lt (small1000 (by omega))) (by rintro j d ⟨k, rfl, _⟩; rfl) ?_ ?_
    · intro i x H1 RR hx S1 kk
      obtain ⟨d, hd, hxd⟩ := hys.get' hx
      obtain ⟨j, h1, h2, h3⟩ := first_at hd
      refine ⟨_, rfl, .inl ⟨rfl, _, S1.seq ha⟩, _, rfl, a, x, ys, ds, d, j, rfl, rfl, S1.seq ha, hys.same S1, hxd.same S1, hdep, by omega, h1, h2, kk _ H1 _ (Same.refl _) (.int _) ⟨j, rfl, h3⟩⟩
    · intro zs H1 es S1 hp1 hl1 hes hdd
      obtain ⟨ks, rfl, ees⟩ := nats_of hdd fun d hd => by
        obtain ⟨j, hj⟩ := List.mem_iff_getElem?.mp hd
        obtain ⟨k, e, _⟩ := hes j d hj
        exact ⟨k, e⟩
      have hkl : ks.length = ds.length := by rw [ees, List.length_map] at hl1; rw [hl1, hyl]
      refine q p H1 ks hp S1 hp1 hkl fun i hi => ?_
      have hik : i < ks.length := by omega
      obtain ⟨k, e, h3⟩ := hes i (.int (ks.getD i 0 : Nat)) (by rw [ees, List.getElem?_map, List.getElem?_eq_getElem hik, List.getD_eq_getElem?_getD, List.getElem?_eq_getElem hik]; rfl)
      have e : ((ks.getD i 0 : Nat) : Int) = (k : Int) := L2.D.int.inj e
      rw [Int.ofNat.inj e]
      exact h3
end
end Lw

namespace Lw
open PySem L2
/-! ### shares into like rooms -/
theorem sum_into {n : Nat} {f : Nat → Nat} {c : Nat} : ∀ {l : List (Nat × Rat)}, (∀ p ∈ l, p.1 < n) → sumQ ((l.filter fun p => decide (f p.1 = c)).map (·.2)) = sumN n (fun j => if f j = c then shAt l j else 0)
  | [], _ => by
    rw [sumN_congr (g := fun _ => 0) fun j _ => by show (if f j = c then (0 : Rat) else 0) = 0; split <;> rfl, sumN_zero]
    rfl
  | p :: t, h => by
    have ih := sum_into (f := f) (c := c) (l := t) fun q hq => h q (List.mem_cons_of_mem _ hq)
    have e : sumN n (fun j => if f j = c then shAt (p :: t) j else 0) = (if f p.1 = c then p.2 else 0) + sumN n (fun j => if f j = c then shAt t j else 0) := by
      rw [sumN_congr (g := fun j => (if j = p.1 then (if f p.1 = c then p.2 else 0) * 1 else 0) + (if f j = c then shAt t j else 0)) fun j _ => ?_, sumN_add, sumN_at (h p List.mem_cons_self) (if f p.1 = c then p.2 else 0) (fun _ => 1), Rat.mul_one]
      show (if f j = c then (if p.1 = j then p.2 else 0) + shAt t j else 0) = _
      by_cases e1 : j = p.1
      · subst e1
        by_cases e2 : f p.1 = c
        · rw [if_pos e2, if_pos rfl, if_pos rfl, if_pos e2, if_pos e2, Rat.mul_one]
        · rw [if_neg e2, if_pos rfl, if_neg e2, if_neg e2, Rat.mul_one]; grind
      · rw [if_neg (Ne.symm e1), if_neg e1]
        by_cases e2 : f j = c
        · rw [if_pos e2, if_pos e2]
        · rw [if_neg e2, if_neg e2]; grind
    rw [e]
    by_cases e2 : f p.1 = c
    · rw [List.filter_cons_of_pos (by simpa using e2), if_pos e2, ← ih]
      rfl
    · rw [List.filter_cons_of_neg (by simpa using e2), if_neg e2, ih]
      grind
/-- the shares of a spread into those called c -/
def sInL (n : Nat) (l : List (Nat × Rat)) (f : Nat → Nat) (c : Nat) : Rat := sumN n (fun j => if f j = c then shAt l j else 0)
def spShr (K : PySem.W.Frag) : Sp := fun vs H Q _ => ∃ (v : V) (l : List (Nat × Rat)) (n : Nat) (a : Addr) (ks : List Nat) (c : Nat), vs = [v, .ref a, .int c] ∧ DatAt K H v (spD l) ∧ SpOk n l ∧ SqL K H a (nl ks) ∧ ks.length = n ∧ ∀ r H', Same H H' → DatAt K H' r (ratD (sInL n l (fun j => ks.getD j 0) c)) → Q r H'
def spShrs (K : PySem.W.Frag) : Sp := fun vs H Q _ => ∃ (v : V) (l : List (Nat × Rat)) (n : Nat) (a : Addr) (ks : List Nat), vs = [v, .ref a] ∧ DatAt K H v (spD l) ∧ SpOk n l ∧ SqL K H a (nl ks) ∧ ks.length = n ∧ n ≤ 8 ∧ ∀ m H', H m = none → Same H H' → RL K H' m n (sInL n l fun j => ks.getD j 0) → Q (.ref m) H'
section
variable {P : Program} {w : World} {K : PySem.W.Frag} {mg : Str → Option Value} {base : Heap}
theorem ok_share_into {f fT : Addr} {fd fdT : FuncData} (C_total : FnOk P w K mg base CX0 4 fT fdT p_total (spTotR K)) (G : Df K mg "share_into" s_share_into p_share_into f fd) (G_total : Df K mg "total" s_total p_total fT fdT) : FnOk P w K mg base CX0 5 f fd p_share_into (spShr K) := by
  refine G.F.okW sc_share_into (fun vs H Q E h => ?_) (fun cdv A outer s H vs Q E hr h => ?_)
  · obtain ⟨v, l, n, a, ks, c, rfl, _⟩ := h
    rfl
  · obtain ⟨v, l, n, a, ks, c, rfl, hv, hs, ha, hkl, q⟩ := h
    have hr_total := hr
    obtain ⟨sa, svs, rfl, hsa, hsl, hsv⟩ := dat_sp hv
    have few := hs.few
    obtain ⟨pr, hpr⟩ : ∃ pr : Nat × Rat → Bool, pr = fun p => decide (ks.getD p.1 0 = c) := ⟨_, rfl⟩
    refine ⟨_, (wpss_one (wps_ret (wpe_callF C_total hr_total rfl G_total.m G_total.F.kp G_total.b pass0 (wpa_c (wpe_comp (NB := ["room", "share", "least", "alike"]) (n := 2) (capN := [2, 1]) (by exact ⟨rfl, by decide, rfl, by decide, ⟨rfl, rfl, trivial⟩, rfl, rfl, rfl, rfl, rfl⟩) rfl (gk_tup2 (by decide) (by decide)) (wpi_tup (wpv 0)) (fun _ _ _ _ => (wpg_tup rfl (wpgs_cons (wpg_name (i := 0) (show (["room", "share", "least", "alike"] : List Str).Nodup by decide +kernel) rfl (Or.inl rfl)) (wpgs_cons (wpg_name (i := 1) (show (["room", "share", "least", "alike"] : List Str).Nodup by decide +kernel) rfl (Or.inl rfl)) wpgs_nil)))) (fun _ _ _ _ => (wpts_one (wpt_cmpR op_eq (wpe_ix (ix_list_K (K := K) rfl) (wpv 3) (wpv 0) (fun _ _ => rfl)) (wpv 2) (nomark _)))) (fun _ _ _ _ => (wpv 1))) wpa_nil)))), ?_⟩
    refine ⟨_, rfl, sa, rfl, ⟨_, hsa⟩, fun p hp => ?_⟩
    refine comp_tup (K := K) (a := sa) (xs := svs) (fun i ys H1 => Same H H1 ∧ H1 p = some (.lst ys) ∧ DatsAt K H1 ys (((l.take i).filter pr).map fun x => ratD x.2) ∧ ys.length ≤ i) ⟨same_fresh _ hp, upd_same, .nil, Nat.le_refl _⟩
      (fun i ys H1 _ h => ⟨h.1.seqT hsa, h.2.1, h.2.2.2⟩) (Nat.le_of_lt (small1000 (by omega))) ?_ ?_
    · rintro i x ys H1 hx ⟨S1, hp1, hys, hyl⟩
      obtain ⟨y, hy, hyd⟩ := hsv i x hx
      obtain ⟨pa, sv, rfl, hpa, hsv'⟩ := dat_pair hyd
      have hym : y ∈ l := List.mem_of_getElem? hy
      have hyn := hs.room y hym
      obtain ⟨hil, hgi⟩ := List.getElem?_eq_some_iff.mp hy
      have hky : y.1 < ks.length := by omega
      have er : (l.take (i + 1)).filter pr = (l.take i).filter pr ++ (if pr y = true then [y] else []) := by
        rw [List.take_succ_eq_append_getElem hil, hgi, List.filter_append]
        congr 1
        by_cases e : pr y = true
        · rw [if_pos e, List.filter_cons_of_pos e, List.filter_nil]
        · rw [if_neg e, List.filter_cons_of_neg e, List.filter_nil]
      refine ⟨pa, _, rfl, S1.seqT hpa, rfl, _, _, rfl, _, _, rfl, rfl, ?_⟩
      refine ⟨_, rfl, _, rfl, a, _, _, _, rfl, rfl, S1.seq ha, atI_nat (nl_at hky), _, rfl, rfl, _, rfl, ?_⟩
      have epr : decide (V.int (ks.getD y.1 0 : Nat) = V.int (c : Int)) = pr y := by
        rw [hpr, decide_eq_decide]
        exact ⟨fun z => Int.ofNat.inj (V.int.inj z), fun z => by rw [z]⟩
      rw [epr]
      cases e : pr y with
      | true =>
        refine iteT ⟨_, rfl, hp1, S1.fresh_upd hp _, upd_same, ?_, by simp; omega⟩
        rw [er, if_pos e, List.map_append]
        refine (DatsAt.kp ⟨_, hp1⟩ (kp_upd _) (noLs_all fun j d h => ?_) hys).append (.cons (DatAt.kp ⟨_, hp1⟩ (kp_upd _) rfl (hsv'.same S1)) .nil)
        rw [List.getElem?_map] at h
        cases e2 : ((l.take i).filter pr)[j]? with
        | none => rw [e2] at h; cases h
        | some y => rw [e2] at h; cases h; rfl
      | false =>
        refine iteF ⟨S1, hp1, ?_, by omega⟩
        rw [er, if_neg (by rw [e]; decide), List.append_nil]
        exact hys
    · rintro ys H1 ⟨S1, hp1, hys, _⟩
      rw [hsl, List.take_length] at hys
      have e : (l.filter pr).map (fun x => ratD x.2) = ((l.filter pr).map (·.2)).map ratD := by rw [List.map_map]; rfl
      rw [e] at hys
      have fl := List.length_filter_le pr l
      refine ⟨p, ys, _, rfl, SqL.of hp1, hys, by rw [List.length_map]; omega, fun x hx => ?_, fun r H2 S2 hr2 _ => q r H2 (S1.trans S2) ?_⟩
      · obtain ⟨y, hy, rfl⟩ := List.mem_map.mp hx
        exact hs.sm200 (List.mem_filter.mp hy).1
      · unfold sInL
        rw [← sum_into hs.room, ← hpr]
        exact hr2
theorem ok_shares_into_all {f fT : Addr} {fd fdT : FuncData} (B : Bn mg) (C_share_into : FnOk P w K mg base CX0 5 fT fdT p_share_into (spShr K)) (G : Df K mg "shares_into_all" s_shares_into_all p_shares_into_all f fd) (G_share_into : Df K mg "share_into" s_share_into p_share_into fT fdT) : FnOk P w K mg base CX0 6 f fd p_shares_into_all (spShrs K) := by
  refine G.F.okW sc_shares_into_all (fun vs H Q E h => ?_) (fun cdv A outer s H vs Q E hr h => ?_)
  · obtain ⟨v, l, n, a, ks, rfl, _⟩ := h
    rfl
  · obtain ⟨v, l, n, a, ks, rfl, hv, hs, ha, hkl, h8, q⟩ := h
    have hr_share_into := hr
    have e0 : (((nl ks).length : Nat) : Int).toNat = n := by rw [nl_len, hkl, Int.toNat_natCast]
    have e1 : (nl ks).length = n := by rw [nl_len, hkl]
    refine ⟨_, (wpss_one (wps_ret (wpe_comp (NB := ["least", "spread", "alike"]) (n := 1) (capN := [0, 1]) (by exact ⟨rfl, by decide, rfl, by decide, ⟨rfl, rfl, trivial⟩, rfl, rfl, rfl, rfl, rfl⟩) rfl (gk_name (by decide)) (wpi_range1 rfl B.range (wpa_c (wpe_callBF call_len_seq rfl B.len PySem.boot_len (wpa_c (wpv 1) wpa_nil)) wpa_nil)) (fun _ _ _ _ => (wpg_name (i := 0) (show (["least", "spread", "alike"] : List Str).Nodup by decide +kernel) rfl (Or.inl rfl))) (fun _ _ _ _ => wpts_nil) (fun _ _ _ _ => (wpe_callF C_share_into hr_share_into rfl G_share_into.m G_share_into.F.kp G_share_into.b pass0 (wpa_c (wpv 1) (wpa_c (wpv 2) (wpa_c (wpv 0) wpa_nil)))))))), ?_⟩
    refine ⟨_, rfl, a, _, rfl, .inl ha, _, rfl, by omega, by omega, fun p hp => ?_⟩
    refine comp_datR (K := K) (lo := 0) (k := (((nl ks).length : Nat) : Int).toNat) (fun j d => d = ratD (sInL n l (fun j => ks.getD j 0) j)) hp (by rw [e0]; exact Nat.le_of_lt (small1000 (by omega))) (by rintro j d rfl; rfl) ?_ ?_
    · intro i H1 RR hi S1 kk
      refine ⟨_, rfl, _, rfl, _, rfl, v, l, n, a, ks, i, (by rw [Int.zero_add]; rfl), hv.same S1, hs, S1.seq ha, hkl, fun r H2 S2 hr2 => kk r H2 _ S2 hr2 rfl⟩
    · intro zs H1 ds S1 hp1 hl1 hds hzs
      rw [e0] at hl1
      have eds : ds = rl n (sInL n l fun j => ks.getD j 0) := by
        refine dats_eq (n := n) (f := fun j => some (ratD (sInL n l (fun j => ks.getD j 0) j))) hl1 (fun j d h => by rw [hds j d h]) _ (rl_len _ _) fun j hj => rl_get hj
      rw [eds] at hzs
      exact q p H1 hp S1 ⟨zs, hp1, hzs⟩
end
end Lw

namespace Lw
open PySem L2
/-! ### a list of pairs of a number and a list, made one by one -/
def SUp (K : PySem.W.Frag) (H1 : Hp) (p : Addr) (g : Nat → Nat) (es : Nat → List D) (i : Nat) (ys : List V) (H : Hp) : Prop := Same H1 H ∧ H p = some (.lst ys) ∧ ys.length = i ∧ ∀ j, j < i → ∃ T r zs, ys[j]? = some (.ref T) ∧ H T = some (.tup [.int (g j : Nat), .ref r]) ∧ r ≠ p ∧ H r = some (.lst zs) ∧ DatsAt K H zs (es j)
theorem SUp.start {K : PySem.W.Frag} {H1 : Hp} {p : Addr} {g : Nat → Nat} {es : Nat → List D} (hp : H1 p = none) : SUp K H1 p g es 0 [] (upd H1 p (.lst [])) := ⟨same_fresh _ hp, upd_same, rfl, fun j hj => absurd hj (Nat.not_lt_zero _)⟩
theorem SUp.more {K : PySem.W.Frag} {H1 H H3 : Hp} {p T r : Addr} {g : Nat → Nat} {es : Nat → List D} {i : Nat} {ys zs : List V} (h : SUp K H1 p g es i ys H) (hp : H1 p = none) (hn : ∀ j, j ≤ i → noLs (es j) = true) (S : Same H H3) (hT : H3 T = some (.tup [.int (g i : Nat), .ref r])) (hrp : r ≠ p) (hr : H3 r = some (.lst zs)) (hz : DatsAt K H3 zs (es i)) :
    H3 p = some (.lst ys) ∧ SUp K H1 p g es (i + 1) (ys ++ [.ref T]) (upd H3 p (.lst (ys ++ [.ref T]))) := by
  obtain ⟨S1, h2, h3, h4⟩ := h
  have hp3 := S _ _ h2
  have tne : ∀ {T : Addr} {xs : List V}, H3 T = some (.tup xs) → T ≠ p := fun e z => by rw [z, hp3] at e; cases e
  refine ⟨hp3, (S1.trans S).fresh_upd hp _, upd_same, by simp [h3], fun j hj => ?_⟩
  by_cases e : j < i
  · obtain ⟨T', r', zs', e1, e2, e3, e4, e5⟩ := h4 j e
    have e2' := S _ _ e2
    refine ⟨T', r', zs', by rw [List.getElem?_append_left (by omega)]; exact e1, by rw [upd_ne (tne e2')]; exact e2', e3, by rw [upd_ne e3]; exact S _ _ e4, DatsAt.kp ⟨_, hp3⟩ (kp_upd _) (hn j (by omega)) (e5.same S)⟩
  · have ej : j = i := by omega
    subst ej
    refine ⟨T, r, zs, by rw [List.getElem?_append_right (by omega), h3, Nat.sub_self]; rfl, by rw [upd_ne (tne hT)]; exact hT, hrp, by rw [upd_ne hrp]; exact hr, DatsAt.kp ⟨_, hp3⟩ (kp_upd _) (hn j (Nat.le_refl _)) hz⟩
def sgD (g : Nat → Nat) (es : Nat → List D) (j : Nat) : D := .tup [.int (g j : Nat), .lst (es j)]
theorem SUp.dats {K : PySem.W.Frag} {H1 H : Hp} {p : Addr} {g : Nat → Nat} {es : Nat → List D} {i : Nat} {ys : List V} (h : SUp K H1 p g es i ys H) : DatsAt K H ys (dl i (sgD g es)) := by
  obtain ⟨S1, h2, h3, h4⟩ := h
  have : ∀ (k : Nat) (us : List V), us.length + k = i → (∀ j, j < us.length → us[j]? = ys[k + j]?) → DatsAt K H us ((List.range' k us.length).map (sgD g es)) := by
    intro k us
    induction us generalizing k with
    | nil => intro _ _; exact .nil
    | cons u us ih =>
      intro hk hu
      have hu0 := hu 0 (Nat.succ_pos _)
      obtain ⟨T, r, zs, e1, e2, e3, e4, e5⟩ := h4 k (by simp at hk; omega)
      rw [Nat.add_zero, e1] at hu0
      cases hu0
      refine .cons (.tup (SqT.of e2) (.cons (.int _) (.cons (.lst (SqL.of e4) e5) .nil))) (ih (k + 1) (by simp at hk; omega) fun j hj => ?_)
      have := hu (j + 1) (by simpa using hj)
      rw [show k + 1 + j = k + (j + 1) by omega, ← this]
      simp
  have := this 0 ys (by omega) fun j _ => by rw [Nat.zero_add]
  rw [h3, ← List.range_eq_range'] at this
  exact this
theorem sgD_eq {g : Nat → Nat} {es : Nat → List D} {i j : Nat} : eqD (sgD g es i) (sgD g es j) = true ↔ g i = g j ∧ eqDs (es i) (es j) = true := by
  unfold sgD
  simp only [eqD, eqDs, Bool.and_true, Bool.and_eq_true, beq_iff_eq]
  exact ⟨fun z => ⟨Int.ofNat.inj z.1, z.2⟩, fun z => ⟨by rw [z.1], z.2⟩⟩
theorem dl_getD {n : Nat} {f : Nat → D} {j : Nat} (h : j < n) : (dl n f).getD j .non = f j := by rw [List.getD_eq_getElem?_getD, dl_get h]; rfl
theorem eqDs_rl {n : Nat} {u v : Nat → Rat} : eqDs (rl n u) (rl n v) = true ↔ ∀ c, c < n → u c = v c := by
  have : ∀ l : List Nat, eqDs (l.map fun j => ratD (u j)) (l.map fun j => ratD (v j)) = true ↔ ∀ c ∈ l, u c = v c := fun l => by
    induction l with
    | nil => simp [eqDs]
    | cons x t ih =>
      simp only [List.map_cons, eqDs, Bool.and_eq_true, eqD_rat, decide_eq_true_eq, ih, List.mem_cons]
      exact ⟨fun ⟨a, b⟩ c hc => by rcases hc with rfl | hc; exact a; exact b c hc, fun h => ⟨h x (.inl rfl), fun c hc => h c (.inr hc)⟩⟩
  unfold rl
  rw [this]
  simp
theorem dep_sg {g : Nat → Nat} {es : Nat → List D} {j : Nat} (h : depD (.lst (es j)) ≤ 40) : depD (sgD g es j) ≤ 50 := by
  unfold sgD
  simp only [depD, depDs] at h ⊢
  omega
theorem dep_rl4 (n : Nat) (f : Nat → Rat) : depD (.lst (rl n f)) ≤ 40 := by
  have : ∀ l : List Nat, depDs (l.map fun j => ratD (f j)) ≤ 1 := fun l => by
    induction l with
    | nil => simp [depDs]
    | cons x t ih => simp only [List.map_cons, depDs]; have e : depD (ratD (f x)) = 1 := by simp [ratD, depD, depDs]
                     omega
  simp only [depD]
  have := this (List.range n)
  unfold rl
  omega
end Lw

namespace Lw
open PySem L2
/-! ### likeness -/
structure Lk (ws : List (List (Nat × Rat))) (ms ks : List Nat) (c : Nat → Nat → Nat) (k : Nat) : Prop where
  len : ks.length = ws.length
  c0 : ∀ i, i < ws.length → Lst ws.length (fun j i => ms.getD j 0 = ms.getD i 0) i (c 0 i)
  ch : Chn ws.length (pOf ws) c k
  ck : ∀ i, i < ws.length → ks.getD i 0 = c k i
theorem Lk.nm {ws : List (List (Nat × Rat))} {ms ks : List Nat} {c : Nat → Nat → Nat} {k : Nat} (h : Lk ws ms ks c k) : Nm ws.length (c 0) := fun i hi => (h.c0 i hi).of hi fun j hj => by
  constructor
  · intro e
    exact ((h.c0 j hj).of (R' := fun a _ => ms.getD a 0 = ms.getD i 0) hj fun a _ => by rw [e]).uniq ⟨(h.c0 i hi).lt, (h.c0 i hi).r, (h.c0 i hi).no⟩
  · intro e
    have a := (h.c0 j hj).r
    have b := (h.c0 i hi).r
    rw [e] at a
    exact a.symm.trans b
theorem Lk.lt {ws : List (List (Nat × Rat))} {ms ks : List Nat} {c : Nat → Nat → Nat} {k : Nat} (h : Lk ws ms ks c k) : ∀ i, i < ws.length → ks.getD i 0 < ws.length := fun i hi => by
  rw [h.ck i hi]
  cases k with
  | zero => exact (h.c0 i hi).lt
  | succ k => exact (h.ch k (Nat.lt_succ_self _) i hi).lt
theorem Lk.more {ws : List (List (Nat × Rat))} {ms ks ks' : List Nat} {c : Nat → Nat → Nat} {k : Nat} (h : Lk ws ms ks c k) (hl : ks'.length = ws.length) (hn : Nxt ws.length (pOf ws) (fun j => ks.getD j 0) (fun j => ks'.getD j 0)) : Lk ws ms ks' (fun t => if t ≤ k then c t else fun i => ks'.getD i 0) (k + 1) := by
  refine ⟨hl, ?_, fun t ht => ?_, fun i hi => ?_⟩
  · simp only [Nat.zero_le, if_true]
    exact h.c0
  · by_cases e : t < k
    · simp only [show t ≤ k by omega, show t + 1 ≤ k by omega, if_true]
      exact h.ch t e
    · have et : t = k := by omega
      subst et
      simp only [Nat.le_refl, if_true, show ¬ t + 1 ≤ t by omega, if_false]
      intro i hi
      have hE : Eqv ws.length (fun j => ks.getD j 0) (c t) := fun a b ha hb => by simp only [h.ck a ha, h.ck b hb]
      exact (hn i hi).of hi fun j hj => Sg.eqv hE hj hi
  · simp only [show ¬ k + 1 ≤ k by omega, if_false]
theorem sg_of {ws : List (List (Nat × Rat))} {ks : List Nat} (hlt : ∀ i, i < ws.length → ks.getD i 0 < ws.length) {i j : Nat} :
    Sg ws.length (pOf ws) (fun j => ks.getD j 0) i j ↔ ks.getD i 0 = ks.getD j 0 ∧ ∀ c, c < ws.length → sInL ws.length (ws.getD i []) (fun j => ks.getD j 0) c = sInL ws.length (ws.getD j []) (fun j => ks.getD j 0) c := by
  constructor
  · exact fun h => ⟨h.1, fun c _ => h.2 c⟩
  · intro h
    refine ⟨h.1, fun c => ?_⟩
    by_cases hc : c < ws.length
    · exact h.2 c hc
    · have z : ∀ i, sIn ws.length (pOf ws) (fun j => ks.getD j 0) i c = 0 := fun i => by
        unfold sIn
        rw [sumN_congr (g := fun _ => 0) fun j hj => if_neg fun e => hc (by rw [← e]; exact hlt j hj), sumN_zero]
      rw [z i, z j]
def spLik (K : PySem.W.Frag) : Sp := fun vs H Q _ => ∃ (v : V) (ws : List (List (Nat × Rat))) (a : Addr) (ms : List Nat), vs = [v, .ref a] ∧ DatAt K H v (wkD ws) ∧ WkOk ws ∧ SqL K H a (nl ms) ∧ ms.length = ws.length ∧
  ∀ m H' (ks : List Nat) c k, Same H H' → SqL K H' m (nl ks) → Lk ws ms ks c k → 0 < k → (∀ i, i < ws.length → c k i = c (k - 1) i) → Q (.ref m) H'
section
variable {P : Program} {w : World} {K : PySem.W.Frag} {mg : Str → Option Value} {base : Heap}
theorem ok_likeness {f fC fM fF fS : Addr} {fd fdC fdM fdF fdS : FuncData} (B : Bn mg) (C_checked : FnOk P w K mg base CX0 7 fC fdC p_checked (spChkV K)) (C_checked_marks : FnOk P w K mg base CX0 3 fM fdM p_checked_marks (spCkMV K)) (C_first_places : FnOk P w K mg base CX0 1 fF fdF p_first_places (spFp K)) (C_shares_into_all : FnOk P w K mg base CX0 6 fS fdS p_shares_into_all (spShrs K))
    (G : Df K mg "likeness" s_likeness p_likeness f fd) (G_checked : Df K mg "checked" s_checked p_checked fC fdC) (G_checked_marks : Df K mg "checked_marks" s_checked_marks p_checked_marks fM fdM) (G_first_places : Df K mg "first_places" s_first_places p_first_places fF fdF) (G_shares_into_all : Df K mg "shares_into_all" s_shares_into_all p_shares_into_all fS fdS) :
    FnOk P w K mg base CX0 8 f fd p_likeness (spLik K) := by
  refine G.F.okW sc_likeness (fun vs H Q E h => ?_) (fun cdv A outer s H vs Q E hr h => ?_)
  · obtain ⟨v, ws, a, ms, rfl, _⟩ := h
    rfl
  · obtain ⟨v, ws, a, ms, rfl, hv, hok, ha, hml, q⟩ := h
    have hr_checked : Room 7 _ := hr
    have hr_checked_marks : Room 3 _ := hr.mono (by decide)
    have hr_first_places : Room 1 _ := hr.mono (by decide)
    have hr_shares_into_all : Room 6 _ := hr.mono (by decide)
    have h8 := hok.n8
    have h1 := hok.n1
    have s2 : 2 ≤ sizeLine := by decide
    refine ⟨_, (wpss_cons (wps_expr (wpe_callF C_checked hr_checked rfl G_checked.m G_checked.F.kp G_checked.b pass0 (wpa_c (wpv 0) wpa_nil))) (wpss_cons (wps_expr (wpe_callF C_checked_marks hr_checked_marks rfl G_checked_marks.m G_checked_marks.F.kp G_checked_marks.b pass0 (wpa_c (wpv 1) (wpa_c (wpe_callBF call_len_seq rfl B.len PySem.boot_len (wpa_c (wpv 0) wpa_nil)) wpa_nil)))) (wpss_cons (wps_set (i := 2) sc_likeness.nd rfl (Or.inr rfl) (wpe_lstN wpa_nil)) (wpss_cons (wps_set (i := 3) sc_likeness.nd rfl (Or.inl rfl) (wpe_callF C_first_places hr_first_places rfl G_first_places.m G_first_places.F.kp G_first_places.b pass0 (wpa_c (wpv 1) wpa_nil))) (wpss_cons (wps_while PassesOwn.never (wpt_cmpR (op_neD (hu60 hr)) (wpv 3) (wpv 2) (nomark _)) (wpss_cons (wps_set (i := 2) sc_likeness.nd rfl (Or.inr rfl) (wpv 3)) (wpss_one (wps_set (i := 3) sc_likeness.nd rfl (Or.inl rfl) (wpe_callF C_first_places hr_first_places rfl G_first_places.m G_first_places.F.kp G_first_places.b pass0 (wpa_c (wpe_comp (NB := ["room", "before", "walk"]) (n := 1) (capN := [2, 0]) (by exact ⟨rfl, by decide, rfl, by decide, ⟨rfl, rfl, trivial⟩, rfl, rfl, rfl, rfl, rfl⟩) rfl (gk_name (by decide)) (wpi_range1 rfl B.range (wpa_c (wpe_callBF call_len_seq rfl B.len PySem.boot_len (wpa_c (wpv 0) wpa_nil)) wpa_nil)) (fun _ _ _ _ => (wpg_name (i := 0) (show (["room", "before", "walk"] : List Str).Nodup by decide +kernel) rfl (Or.inl rfl))) (fun _ _ _ _ => wpts_nil) (fun _ _ _ _ => (wpe_tupN (wpa_c (wpe_ix (ix_list_K (K := K) rfl) (wpv 1) (wpv 0) (fun _ _ => rfl)) (wpa_c (wpe_callF C_shares_into_all hr_shares_into_all rfl G_shares_into_all.m G_shares_into_all.F.kp G_shares_into_all.b pass0 (wpa_c (wpe_ix (ix_tup_K (K := K) rfl) (wpv 2) (wpv 0) (fun _ _ => rfl)) (wpa_c (wpv 1) wpa_nil))) wpa_nil))))) wpa_nil)))))) (wpss_one (wps_ret (wpv 3)))))))), ?_⟩
    refine ⟨_, rfl, v, ws, rfl, hv, hok, fun H1 S1 => ?_⟩
    obtain ⟨wa, wvs, rfl, hwa, hwl, hwsp⟩ := dat_wk hv
    have e0 : ((wvs.length : Nat) : Int).toNat = ws.length := by rw [hwl, Int.toNat_natCast]
    refine ⟨_, rfl, _, rfl, wa, _, rfl, .inr (S1.seqT hwa), a, ms, (by rw [hwl, hml]; rfl), S1.seq ha, by omega, fun H2 S2 => ?_⟩
    have S02 := S1.trans S2
    refine ⟨Nat.zero_le _, fun b0 H3 _ S3 hb0 => ?_⟩
    have S03 := S02.trans S3
    have hma : SqL K H3 a (nl ms) := S03.seq ha
    have e9 : (ms.map fun k : Nat => D.int k).length = ws.length := by rw [List.length_map, hml]
    refine ⟨_, rfl, a, _, ms.map (fun k : Nat => D.int k), rfl, hma, ?_, fun e he => ?_, by omega, fun m0 H4 ks _ S4 hm0 hkl hks => ?_⟩
    · rw [nl_ints, show (ms.map fun k : Nat => D.int k) = (ms.map fun k : Nat => (k : Int)).map D.int by rw [List.map_map]; rfl]
      exact datsInts _
    · obtain ⟨k, _, rfl⟩ := List.mem_map.mp he
      simp [depD]
    rw [e9] at hkl hks
    have lk0 : Lk ws ms ks (fun _ i => ks.getD i 0) 0 := by
      refine ⟨hkl, fun i hi => (hks i hi).of hi fun j hj => ?_, fun t ht => absurd ht (Nat.not_lt_zero _), fun i _ => rfl⟩
      have g : ∀ i, i < ws.length → (ms.map fun k : Nat => D.int k).getD i .non = .int (ms.getD i 0 : Nat) := fun i hi => by
        rw [List.getD_eq_getElem?_getD, List.getElem?_map, List.getElem?_eq_getElem (by omega), List.getD_eq_getElem?_getD, List.getElem?_eq_getElem (by omega)]
        rfl
      rw [g j hj, g i hi]
      simp only [eqD, beq_iff_eq]
      exact ⟨fun z => Int.ofNat.inj z, fun z => by rw [z]⟩
    have S04 := S03.trans S4
    refine ⟨fun m ρ Hx => ∃ (bl al : Addr) (bs as : List Nat) (c : Nat → Nat → Nat) (k : Nat), ρ = [some (.ref wa), some (.ref a), some (.ref bl), some (.ref al)] ∧ Same H Hx ∧ SqL K Hx bl (nl bs) ∧ SqL K Hx al (nl as) ∧ Lk ws ms as c k ∧ ((k = 0 ∧ bs = []) ∨ (0 < k ∧ bs.length = ws.length ∧ ∀ i, i < ws.length → bs.getD i 0 = c (k - 1) i)) ∧
      m = 2 * (ws.length - (reps ws.length (c k)).length) + (if as = bs then 0 else 1), ⟨_, b0, m0, [], ks, _, 0, rfl, S04, SqL.of (S4 _ _ hb0), SqL.of hm0, lk0, .inl ⟨rfl, rfl⟩, rfl⟩, ?_⟩
    rintro m ρ H5 ⟨bl, al, bs, as, c, k, rfl, S5, hbl, hal, lk, hbs, rfl⟩
    refine ⟨_, rfl, _, rfl, _, _, .inr ⟨_, _, rfl, rfl⟩, datNl hal, datNl hbl, depInts as, _, rfl, ?_⟩
    rw [show eqD (.lst ((as.map fun k : Nat => (k : Int)).map L2.D.int)) (.lst ((bs.map fun k : Nat => (k : Int)).map L2.D.int)) = decide (as = bs) from eqD_ints as bs]
    by_cases e : as = bs
    · rw [decide_eq_true e]
      refine iteF ⟨_, rfl, ?_⟩
      rcases hbs with ⟨z1, z2⟩ | ⟨z1, z2, z3⟩
      · have := lk.len; rw [e, z2] at this; simp at this; omega
      · exact q al H5 as c k S5 hal lk z1 fun i hi => by rw [← lk.ck i hi, e]; exact z3 i hi
    · rw [decide_eq_false e]
      refine iteT ⟨_, fun ρ' H' h => h, ?_⟩
      have hasl := lk.len
      have hlt := lk.lt
      refine ⟨_, rfl, ?_⟩
      refine ⟨_, rfl, wa, _, rfl, .inr (S5.seqT hwa), _, rfl, by omega, by omega, fun p hp => ?_⟩
      refine comp_range (lo := 0) (k := ((wvs.length : Nat) : Int).toNat) (tt := tYes) (SUp K H5 p (fun j => as.getD j 0) fun j => rl ws.length (sInL ws.length (ws.getD j []) fun j => as.getD j 0)) (SUp.start hp) (fun i ys H6 _ h => ⟨h.2.1, Nat.le_of_eq h.2.2.1⟩) (by rw [e0]; exact Nat.le_of_lt (small1000 (by omega))) ?_ ?_
      · intro i ys H6 hi h
        rw [e0] at hi
        have S56 := h.1
        obtain ⟨x, hx, hxd⟩ := hwsp i hi
        have hxa : atI wvs (0 + (i : Int)) = some x := by rw [Int.zero_add]; exact atI_nat hx
        have hia : i < as.length := by omega
        have hat : atI (nl as) (0 + (i : Int)) = some (.int (as.getD i 0 : Nat)) := by rw [Int.zero_add]; exact atI_nat (nl_at hia)
        have S06 := S5.trans S56
        dsimp only [gName, tYes]
        rw [if_pos rfl]
        refine ⟨_, rfl, _, rfl, al, _, _, _, rfl, rfl, S56.seq hal, hat, ?_⟩
        refine ⟨_, rfl, _, rfl, wa, _, _, _, rfl, rfl, S06.seqT hwa, hxa, _, rfl, x, _, ws.length, al, as, rfl, hxd.same S06, hok.sp _ (getD_mem hi), S56.seq hal, hasl, h8, fun r H7 r0 S7 ⟨zs, hr7, hzs⟩ => ?_⟩
        refine ⟨s2, fun T H8 _ S8 hT => ?_⟩
        have hrp : r ≠ p := fun z => by rw [z, h.2.1] at r0; cases r0
        exact h.more hp (fun j _ => noLs_all fun k d hd => by rw [rl, List.getElem?_map] at hd; cases e2 : (List.range ws.length)[k]? with | none => rw [e2] at hd; cases hd | some y => rw [e2] at hd; cases hd; rfl) (S7.trans S8) hT hrp (S8 _ _ hr7) (hzs.same S8)
      · intro ys H6 h
        rw [e0] at h
        have S56 := h.1
        have hl9 : (dl ws.length (sgD (fun j => as.getD j 0) fun j => rl ws.length (sInL ws.length (ws.getD j []) fun j => as.getD j 0))).length = ws.length := dl_len _ _
        refine ⟨p, ys, _, rfl, SqL.of h.2.1, h.dats, fun d hd => ?_, by omega, fun m1 H7 ks1 _ S7 hm1 hkl1 hks1 => ?_⟩
        · obtain ⟨j, _, rfl⟩ := List.mem_map.mp hd
          exact dep_sg (dep_rl4 _ _)
        rw [hl9] at hkl1 hks1
        have hN : Nxt ws.length (pOf ws) (fun j => as.getD j 0) (fun j => ks1.getD j 0) := fun i hi => (hks1 i hi).of hi fun j hj => by
          rw [dl_getD hj, dl_getD hi, sgD_eq, eqDs_rl, sg_of hlt]
        have lk1 := lk.more hkl1 hN
        refine ⟨_, ?_, al, m1, as, ks1, _, k + 1, rfl, (S5.trans S56).trans S7, (S56.trans S7).seq hal, SqL.of hm1, lk1, .inr ⟨Nat.succ_pos _, hasl, fun i hi => ?_⟩, rfl⟩
        · rw [if_neg e]
          simp only [show ¬ k + 1 ≤ k by omega, if_false]
          have nmA : Nm ws.length (fun j => as.getD j 0) := fun i hi => by
            have nm : Nm ws.length (c k) := by
              cases k with
              | zero => exact lk.nm
              | succ k => exact (lk.ch k (Nat.lt_succ_self _)).nm
            have := nm i hi
            rw [← lk.ck i hi] at this
            exact this.of hi fun j hj => by
              show c k j = c k i ↔ as.getD j 0 = as.getD i 0
              rw [lk.ck j hj, lk.ck i hi]
          have r1 : reps ws.length (c k) = reps ws.length (fun j => as.getD j 0) := List.filter_congr fun i hi => by
            show decide (c k i = i) = decide (as.getD i 0 = i)
            rw [lk.ck i (by simpa using hi)]
          have le := reps_le ws.length (fun i => ks1.getD i 0)
          rw [r1]
          by_cases e2 : ks1 = as
          · rw [if_pos e2, e2]; omega
          · rw [if_neg e2]
            have := reps_grow nmA hN.nm (fun i j hi hj => hN.fine hi hj) fun z => e2 (List.ext_getElem (by omega) fun i a1 a2 => by
              have := z i (by omega)
              rw [List.getD_eq_getElem?_getD, List.getElem?_eq_getElem a1, List.getD_eq_getElem?_getD, List.getElem?_eq_getElem a2] at this
              exact this)
            have le2 := reps_le ws.length (fun j => as.getD j 0)
            omega
        · simp only [Nat.add_sub_cancel, Nat.le_refl, if_true]
          exact lk.ck i hi
end
end Lw

namespace Lw
open PySem L2
theorem shSum_take_le : ∀ {l : List (Nat × Rat)} (k : Nat), (∀ p ∈ l, 0 ≤ p.2) → shSum (l.take k) ≤ shSum l
  | [], k, _ => by rw [List.take_nil]; exact Rat.le_refl
  | p :: t, 0, h => by
    have := shSum_take_le (l := t) 0 fun q hq => h q (List.mem_cons_of_mem _ hq)
    have h0 := h p List.mem_cons_self
    rw [List.take_zero] at this ⊢
    have e : shSum ([] : List (Nat × Rat)) = 0 := rfl
    rw [e] at this ⊢
    show (0 : Rat) ≤ p.2 + shSum t
    grind
  | p :: t, k + 1, h => by
    have := shSum_take_le (l := t) k fun q hq => h q (List.mem_cons_of_mem _ hq)
    show p.2 + shSum (t.take k) ≤ p.2 + shSum t
    grind
end Lw
namespace Lw
open PySem L2
/-! ### the law's shares by kinds -/
def addR : List (Nat × Rat) → Nat → Rat → List (Nat × Rat)
  | [], r, x => [(r, x)]
  | (q, v) :: t, r, x => if q = r then (q, v + x) :: t else (q, v) :: addR t r x
def vOf : List (Nat × Rat) → Nat → Rat
  | [], _ => 0
  | (q, v) :: t, r => if q = r then v else vOf t r
theorem vOf_add : ∀ (m : List (Nat × Rat)) (r : Nat) (x : Rat) (c : Nat), vOf (addR m r x) c = vOf m c + (if c = r then x else 0)
  | [], r, x, c => by
    show (if r = c then x else 0) = 0 + _
    by_cases e : r = c
    · rw [if_pos e, if_pos e.symm]; grind
    · rw [if_neg e, if_neg (Ne.symm e)]; grind
  | (q, v) :: t, r, x, c => by
    unfold addR
    by_cases e : q = r
    · rw [if_pos e]
      subst e
      show (if q = c then v + x else vOf t c) = (if q = c then v else vOf t c) + _
      by_cases e2 : q = c
      · rw [if_pos e2, if_pos e2, if_pos e2.symm]
      · rw [if_neg e2, if_neg e2, if_neg (Ne.symm e2)]; grind
    · rw [if_neg e]
      show (if q = c then v else vOf (addR t r x) c) = (if q = c then v else vOf t c) + _
      by_cases e2 : q = c
      · rw [if_pos e2, if_pos e2, if_neg (fun z => e (by rw [e2, z]))]; grind
      · rw [if_neg e2, if_neg e2, vOf_add t r x c]
theorem addR_keys : ∀ (m : List (Nat × Rat)) (r : Nat) (x : Rat) (k : Nat), k ∈ (addR m r x).map (·.1) ↔ k = r ∨ k ∈ m.map (·.1)
  | [], r, x, k => by simp [addR]
  | (q, v) :: t, r, x, k => by
    unfold addR
    by_cases e : q = r
    · rw [if_pos e]; subst e; simp
    · rw [if_neg e]
      simp only [List.map_cons, List.mem_cons, addR_keys t r x k]
      constructor
      · rintro (h | h | h)
        · exact .inr (.inl h)
        · exact .inl h
        · exact .inr (.inr h)
      · rintro (h | h | h)
        · exact .inr (.inl h)
        · exact .inl h
        · exact .inr (.inr h)
theorem addR_nd : ∀ (m : List (Nat × Rat)) (r : Nat) (x : Rat), (m.map (·.1)).Nodup → ((addR m r x).map (·.1)).Nodup
  | [], r, x, _ => by simp [addR]
  | (q, v) :: t, r, x, h => by
    rw [List.map_cons, List.nodup_cons] at h
    unfold addR
    by_cases e : q = r
    · rw [if_pos e, List.map_cons, List.nodup_cons]; exact h
    · rw [if_neg e, List.map_cons, List.nodup_cons]
      refine ⟨fun z => ?_, addR_nd t r x h.2⟩
      rcases (addR_keys t r x q).mp z with z | z
      · exact e z
      · exact h.1 z
theorem addR_len : ∀ (m : List (Nat × Rat)) (r : Nat) (x : Rat), (addR m r x).length ≤ m.length + 1
  | [], r, x => by simp [addR]
  | (q, v) :: t, r, x => by
    unfold addR
    split
    · simp
    · have := addR_len t r x; simp; omega
theorem vOf_mem : ∀ {m : List (Nat × Rat)} {c : Nat} {q : Rat}, (m.map (·.1)).Nodup → ((c, q) ∈ m ↔ c ∈ m.map (·.1) ∧ q = vOf m c)
  | [], c, q, _ => by simp
  | (k, v) :: t, c, q, h => by
    rw [List.map_cons, List.nodup_cons] at h
    have ih := vOf_mem (m := t) (c := c) (q := q) h.2
    simp only [List.mem_cons, List.map_cons, vOf]
    by_cases e : k = c
    · subst e
      rw [if_pos rfl]
      constructor
      · rintro (z | z)
        · cases z; exact ⟨.inl rfl, rfl⟩
        · exact absurd (List.mem_map_of_mem (f := (·.1)) z) h.1
      · rintro ⟨_, rfl⟩; exact .inl rfl
    · rw [if_neg e, ih]
      constructor
      · rintro (z | z)
        · cases z; exact absurd rfl e
        · exact ⟨.inr z.1, z.2⟩
      · rintro ⟨z | z, z2⟩
        · exact absurd z.symm e
        · exact .inr ⟨z, z2⟩
theorem vOf_no : ∀ {m : List (Nat × Rat)} {c : Nat}, c ∉ m.map (·.1) → vOf m c = 0
  | [], _, _ => rfl
  | (k, v) :: t, c, h => by
    simp only [List.map_cons, List.mem_cons, not_or] at h
    show (if k = c then v else vOf t c) = 0
    rw [if_neg (Ne.symm h.1), vOf_no h.2]
/-- a dict of fractions -/
structure KvR (K : PySem.W.Frag) (H : Hp) (kvs : List (Key × V)) (m : List (Nat × Rat)) : Prop where
  ks : kvs.map (·.1) = m.map fun p => (Sum.inl (p.1 : Int) : Key)
  vs : DatsAt K H (kvs.map (·.2)) (m.map fun p => ratD p.2)
theorem KvR.get {K : PySem.W.Frag} {H : Hp} : ∀ {kvs : List (Key × V)} {m : List (Nat × Rat)}, KvR K H kvs m → ∀ (c : Nat) {z : V}, DatAt K H z (ratD 0) → DatAt K H ((valV kvs (Sum.inl (c : Int) : Key)).getD z) (ratD (vOf m c))
  | [], [], _, c, z, hz => hz
  | [], _ :: _, h, _, _, _ => by have := h.ks; simp at this
  | _ :: _, [], h, _, _, _ => by have := h.ks; simp at this
  | (k, v) :: t, (q, x) :: m, h, c, z, hz => by
    obtain ⟨h1, h2⟩ := h
    simp only [List.map_cons, List.cons.injEq] at h1
    cases h2 with
    | cons a b =>
      show DatAt K H _ (ratD (if q = c then x else vOf m c))
      by_cases e : q = c
      · rw [if_pos e, valV_pos (by rw [h1.1, e])]
        exact a
      · rw [if_neg e, valV_neg (by rw [h1.1]; intro z; exact e (Int.ofNat.inj (Sum.inl.inj z)))]
        exact KvR.get ⟨h1.2, b⟩ c hz
theorem putK_ne {p : Key × V} {r : List (Key × V)} {k : Key} {v : V} (h : p.1 ≠ k) : putK (p :: r) k v = p :: putK r k v := by
  unfold putK
  simp only [List.any_cons, h, decide_false, Bool.false_or, List.map_cons, if_false]
  split <;> rfl
theorem putK_eq {p : Key × V} {r : List (Key × V)} {k : Key} {v : V} (h : p.1 = k) (hn : ∀ q ∈ r, q.1 ≠ k) : putK (p :: r) k v = (p.1, v) :: r := by
  unfold putK
  simp only [List.any_cons, h, decide_true, Bool.true_or, if_true, List.map_cons]
  congr 1
  conv => rhs; rw [← List.map_id r]
  exact List.map_congr_left fun q hq => by rw [if_neg (hn q hq)]; rfl
theorem KvR.put {K : PySem.W.Frag} {H : Hp} : ∀ {kvs : List (Key × V)} {m : List (Nat × Rat)}, KvR K H kvs m → (m.map (·.1)).Nodup → ∀ {c : Nat} {x : Rat} {v : V}, DatAt K H v (ratD (vOf m c + x)) → KvR K H (putK kvs (Sum.inl (c : Int) : Key) v) (addR m c x)
  | [], [], _, _, c, x, v, hv => by
    have e : vOf [] c + x = x := by show 0 + x = x; grind
    rw [e] at hv
    exact ⟨rfl, .cons hv .nil⟩
  | [], _ :: _, h, _, _, _, _, _ => by have := h.ks; simp at this
  | _ :: _, [], h, _, _, _, _, _ => by have := h.ks; simp at this
  | (k, u) :: t, (q, y) :: m, h, hn, c, x, v, hv => by
    obtain ⟨h1, h2⟩ := h
    simp only [List.map_cons, List.cons.injEq] at h1
    rw [List.map_cons, List.nodup_cons] at hn
    cases h2 with
    | cons a b =>
      have hv : DatAt K H v (ratD ((if q = c then y else vOf m c) + x)) := hv
      by_cases e : q = c
      · rw [if_pos e] at hv
        have ke : k = (Sum.inl (c : Int) : Key) := by rw [h1.1, e]
        rw [putK_eq ke fun p hp z => ?_]
        · show KvR K H _ (if q = c then (q, y + x) :: m else _)
          rw [if_pos e]
          exact ⟨by rw [List.map_cons, List.map_cons, ke, e, h1.2], .cons hv b⟩
        · have : p.1 ∈ t.map (·.1) := List.mem_map_of_mem hp
          rw [h1.2] at this
          obtain ⟨p', hp', e2⟩ := List.mem_map.mp this
          have e3 : p'.1 = c := by rw [z] at e2; exact Int.ofNat.inj (Sum.inl.inj e2)
          exact hn.1 (List.mem_map.mpr ⟨p', hp', e3.trans e.symm⟩)
      · rw [if_neg e] at hv
        have ih := KvR.put ⟨h1.2, b⟩ hn.2 hv
        rw [putK_ne (by rw [h1.1]; intro z; exact e (Int.ofNat.inj (Sum.inl.inj z)))]
        show KvR K H _ (if q = c then _ else (q, y) :: addR m c x)
        rw [if_neg e]
        exact ⟨by rw [List.map_cons, List.map_cons, h1.1, ih.ks], .cons a ih.vs⟩
theorem KvR.same {K : PySem.W.Frag} {H H' : Hp} {kvs : List (Key × V)} {m : List (Nat × Rat)} (h : KvR K H kvs m) (S : Same H H') : KvR K H' kvs m := ⟨h.ks, h.vs.same S⟩
/-- what is told: the kinds that are come to, in order, with their shares -/
structure Cn (n : Nat) (l : List (Nat × Rat)) (f : Nat → Nat) (prs : List (Nat × Rat)) : Prop where
  rise : (prs.map (·.1)).Pairwise (· < ·)
  mem : ∀ c q, (c, q) ∈ prs ↔ q = sInL n l f c ∧ q ≠ 0
theorem rise_ext : ∀ {a b : List (Nat × Rat)}, (a.map (·.1)).Pairwise (· < ·) → (b.map (·.1)).Pairwise (· < ·) → (∀ x, x ∈ a ↔ x ∈ b) → a = b
  | [], [], _, _, _ => rfl
  | [], y :: _, _, _, h => by have := (h y).mpr List.mem_cons_self; cases this
  | x :: _, [], _, _, h => by have := (h x).mp List.mem_cons_self; cases this
  | x :: s, y :: t, ha, hb, h => by
    rw [List.map_cons, List.pairwise_cons] at ha hb
    have xy : x = y := by
      rcases List.mem_cons.mp ((h x).mp List.mem_cons_self) with z | z
      · exact z
      · rcases List.mem_cons.mp ((h y).mpr List.mem_cons_self) with w | w
        · exact w.symm
        · have a1 := hb.1 x.1 (List.mem_map_of_mem z)
          have a2 := ha.1 y.1 (List.mem_map_of_mem w)
          omega
    subst xy
    rw [rise_ext ha.2 hb.2 fun z => ?_]
    constructor
    · intro hz
      rcases List.mem_cons.mp ((h z).mp (List.mem_cons_of_mem _ hz)) with w | w
      · have := ha.1 z.1 (List.mem_map_of_mem hz); rw [w] at this; omega
      · exact w
    · intro hz
      rcases List.mem_cons.mp ((h z).mpr (List.mem_cons_of_mem _ hz)) with w | w
      · have := hb.1 z.1 (List.mem_map_of_mem hz); rw [w] at this; omega
      · exact w
theorem Cn.eq_iff {n : Nat} {l l' : List (Nat × Rat)} {f : Nat → Nat} {a b : List (Nat × Rat)} (ha : Cn n l f a) (hb : Cn n l' f b) : a = b ↔ ∀ c, sInL n l f c = sInL n l' f c := by
  constructor
  · rintro rfl c
    by_cases e : sInL n l f c = 0
    · by_cases e2 : sInL n l' f c = 0
      · rw [e, e2]
      · have := (ha.mem c _).mp ((hb.mem c _).mpr ⟨rfl, e2⟩)
        exact this.1.symm
    · exact ((hb.mem c _).mp ((ha.mem c _).mpr ⟨rfl, e⟩)).1
  · intro h
    exact rise_ext ha.rise hb.rise fun ⟨c, q⟩ => by rw [ha.mem, hb.mem, h c]
def prD (p : Nat × Rat) : D := .tup [.int (p.1 : Nat), ratD p.2]
theorem eqDs_pr : ∀ {a b : List (Nat × Rat)}, eqDs (a.map prD) (b.map prD) = true ↔ a = b
  | [], [] => by simp [eqDs]
  | [], _ :: _ => by simp [eqDs]
  | _ :: _, [] => by simp [eqDs]
  | x :: s, y :: t => by
    simp only [List.map_cons, eqDs, Bool.and_eq_true, eqDs_pr (a := s) (b := t), List.cons.injEq]
    have : eqD (prD x) (prD y) = true ↔ x = y := by
      unfold prD
      simp only [eqD, eqDs, Bool.and_true, Bool.and_eq_true, beq_iff_eq, eqD_rat, decide_eq_true_eq]
      exact ⟨fun z => Prod.ext (Int.ofNat.inj z.1) z.2, fun z => by rw [z]; exact ⟨rfl, rfl⟩⟩
    rw [this]
theorem sumf_bd {pr : Nat × Rat → Bool} : ∀ {l : List (Nat × Rat)}, (∀ p ∈ l, 0 ≤ p.2 ∧ Wh 55440 p.2) → 0 ≤ sumQ ((l.filter pr).map (·.2)) ∧ sumQ ((l.filter pr).map (·.2)) ≤ shSum l ∧ Wh 55440 (sumQ ((l.filter pr).map (·.2)))
  | [], _ => ⟨Rat.le_refl, Rat.le_refl, Wh.zero _⟩
  | p :: t, h => by
    obtain ⟨a, b, c⟩ := sumf_bd (pr := pr) (l := t) fun q hq => h q (List.mem_cons_of_mem _ hq)
    obtain ⟨d, e⟩ := h p List.mem_cons_self
    have es : shSum (p :: t) = p.2 + shSum t := rfl
    rw [es]
    cases e2 : pr p with
    | true =>
      rw [List.filter_cons_of_pos e2]
      show 0 ≤ p.2 + sumQ ((t.filter pr).map (·.2)) ∧ p.2 + sumQ ((t.filter pr).map (·.2)) ≤ _ ∧ Wh 55440 (p.2 + sumQ ((t.filter pr).map (·.2)))
      exact ⟨by grind, by grind, Wh.add e c⟩
    | false =>
      rw [List.filter_cons_of_neg (by simp [e2])]
      exact ⟨a, by grind, c⟩
end Lw

namespace Lw
open PySem L2
def spLsh (K : PySem.W.Frag) : Sp := fun vs H Q _ => ∃ (v : V) (l : List (Nat × Rat)) (n : Nat) (a : Addr) (ks : List Nat), vs = [v, .ref a] ∧ DatAt K H v (spD l) ∧ SpOk n l ∧ SqL K H a (nl ks) ∧ ks.length = n ∧
  ∀ m H' zs prs, H m = none → Same H H' → H' m = some (.lst zs) → DatsAt K H' zs (prs.map prD) → Cn n l (fun j => ks.getD j 0) prs → prs.length ≤ 6 → Q (.ref m) H'
theorem datR_kp {K : PySem.W.Frag} {H H' : Hp} {d : Addr} {kvs : List (Key × V)} (hd : H d = some (.dK kvs)) (S : Kp d H H') {v : V} {q : Rat} (h : DatAt K H v (ratD q)) : DatAt K H' v (ratD q) := by
  obtain ⟨a, rfl, ha⟩ := datR h
  refine datR_mk ?_
  rcases ha with (z | ⟨o, z⟩) | z
  · exact .inl (.inl (S a _ (fun e => by rw [e, hd] at z; cases z) z))
  · exact .inl (.inr ⟨o, S a _ (fun e => by rw [e, hd] at z; cases z) z⟩)
  · exact .inr z
theorem datsR_kp {K : PySem.W.Frag} {H H' : Hp} {d : Addr} {kvs : List (Key × V)} (hd : H d = some (.dK kvs)) (S : Kp d H H') : ∀ {vs : List V} {qs : List (Nat × Rat)}, DatsAt K H vs (qs.map fun p => ratD p.2) → DatsAt K H' vs (qs.map fun p => ratD p.2)
  | _, [], .nil => .nil
  | _, _ :: _, .cons a b => .cons (datR_kp hd S a) (datsR_kp hd S b)
section
variable {P : Program} {w : World} {K : PySem.W.Frag} {mg : Str → Option Value} {base : Heap}
theorem ok_law_shares {f fA : Addr} {fd fdA : FuncData} (B : Bn mg) (C_law_add : FnOk P w K mg base CX0 3 fA fdA p_law_add (spAddR K)) (G : Df K mg "_law_shares" s_law_shares p_law_shares f fd) (G_law_add : Df K mg "_law_add" s_law_add p_law_add fA fdA) : FnOk P w K mg base CX0 4 f fd p_law_shares (spLsh K) := by
  refine G.F.okW sc_law_shares (fun vs H Q E h => ?_) (fun cdv A outer s H vs Q E hr h => ?_)
  · obtain ⟨v, l, n, a, ks, rfl, _⟩ := h
    rfl
  · obtain ⟨v, l, n, a, ks, rfl, hv, hs, ha, hkl, q⟩ := h
    have hr_law_add := hr
    have hu := hu_of hr
    obtain ⟨sa, svs, rfl, hsa, hsl, hsv⟩ := dat_sp hv
    have few := hs.few
    have s2 : 2 ≤ sizeLine := by decide
    refine ⟨_, (wpss_cons (wps_set (i := 2) sc_law_shares.nd rfl (Or.inl rfl) wpe_dnewK) (wpss_cons (wps_for PassesOwn.never rfl (wpi_tup (wpv 0)) (wpg_tup rfl (wpgs_cons (wpg_name (i := 3) sc_law_shares.nd rfl (Or.inl rfl)) (wpgs_cons (wpg_name (i := 4) sc_law_shares.nd rfl (Or.inl rfl)) wpgs_nil))) (wpss_one (wps_dput hu (wpv 2) (wpe_ix ix_list (wpv 1) (wpv 3) (fun _ _ => rfl)) (wpe_callF C_law_add hr_law_add rfl G_law_add.m G_law_add.F.kp G_law_add.b pass0 (wpa_c (wpe_dget2 hu (wpv 2) (wpe_ix ix_list (wpv 1) (wpv 3) (fun _ _ => rfl)) (wpe_tupN (wpa_c wpe_int (wpa_c wpe_int wpa_nil))) ⟨rfl, rfl, rfl, rfl⟩) (wpa_c (wpv 4) (wpa_c (wpe_tupN (wpa_c wpe_int (wpa_c wpe_int wpa_nil))) wpa_nil)))) rfl))) (wpss_one (wps_ret (wpe_callBF (call_sorted_items rfl) rfl B.sorted PyProof.Rows.boot_sorted (wpa_c (wpe_bm0 PySem.F.plainAttrs_dict PySem.F.slot_dict_items PySem.F.type_dict_items mt_items (wpv 2)) wpa_nil)))))), ?_⟩
    intro d hd
    have S0 : Same H (upd H d (.dK [])) := same_new _ hd
    have nn : ∀ p ∈ l, 0 ≤ p.2 := fun p hp => Rat.le_of_lt (hs.pos p hp)
    refine ⟨_, rfl, sa, rfl, ⟨_, S0.seqT hsa⟩, for_tup (K := K) (a := sa) (xs := svs) (fun i σ H1 => ∃ (m : List (Nat × Rat)) (kvs : List (Key × V)) (o3 o4 : Option V), σ = [some (.ref sa), some (.ref a), some (.ref d), o3, o4] ∧ Same H H1 ∧ H1 d = some (.dK kvs) ∧ KvR K H1 kvs m ∧ (m.map (·.1)).Nodup ∧ m.length ≤ i ∧ (∀ c, vOf m c = sumQ (((l.take i).filter fun p => decide (ks.getD p.1 0 = c)).map (·.2))) ∧ ∀ c ∈ m.map (·.1), 0 < vOf m c)
      ⟨[], [], none, none, rfl, S0, upd_same, ⟨rfl, .nil⟩, List.nodup_nil, Nat.le_refl _, fun c => by rw [List.take_zero]; rfl, by simp⟩ (fun i σ H1 _ ⟨_, _, _, _, _, S, _⟩ => S.seqT hsa) ?_ ?_⟩
    · rintro i x σ H1 hx ⟨m, kvs, o3, o4, rfl, S1, hd1, hkv, hnd, hml, hv1, hpos⟩
      obtain ⟨y, hy, hyd⟩ := hsv i x hx
      obtain ⟨pa, sv, rfl, hpa, hsv'⟩ := dat_pair hyd
      have hym : y ∈ l := List.mem_of_getElem? hy
      have hyn := hs.room y hym
      obtain ⟨hil, hgi⟩ := List.getElem?_eq_some_iff.mp hy
      have hky : y.1 < ks.length := by omega
      have hkvl : kvs.length = m.length := by have := congrArg List.length hkv.ks; simpa using this
      have bd := sumf_bd (pr := fun p => decide (ks.getD p.1 0 = ks.getD y.1 0)) (l := l.take i) fun p hp => ⟨nn p (List.mem_of_mem_take hp), hs.wh p (List.mem_of_mem_take hp)⟩
      have le1 := shSum_take_le i nn
      rw [hs.one] at le1
      rw [← hv1 (ks.getD y.1 0)] at bd
      have smv : Sm 1000 (vOf m (ks.getD y.1 0)) := Pr.sm (m := 55440) ⟨bd.1, Rat.le_trans bd.2.1 le1, bd.2.2⟩ (by decide) (Nat.lt_of_lt_of_le (show 55440 < 2 ^ 16 by decide) (Nat.pow_le_pow_right (by decide) (by decide)))
      refine ⟨pa, _, rfl, S1.seqT hpa, rfl, _, _, rfl, _, _, rfl, rfl, ?_⟩
      refine ⟨_, rfl, d, rfl, .inl ⟨_, .inl hd1⟩, _, rfl, _, rfl, a, _, _, _, rfl, rfl, S1.seq ha, atI_nat (nl_at hky), s2, fun z H2 _ S2 hz => ?_⟩
      refine ⟨_, DGet.k (k := Sum.inl ((ks.getD y.1 0 : Nat) : Int)) (S2 _ _ hd1), ?_⟩
      refine ⟨_, rfl, s2, fun one H3 _ S3 hone => ?_⟩
      have hg := (hkv.same S2).get (ks.getD y.1 0) (datR_mk (q := 0) (SqT.of hz))
      refine ⟨_, sv, .ref one, _, _, 1, rfl, hg.same S3, hsv'.same ((S1.trans S2).trans S3), datR_mk (q := 1) (SqT.of hone), smv, hs.sm hym, ⟨by decide, by decide⟩, fun r H4 S4 hr4 => ?_⟩
      have S14 : Same H1 H4 := (S2.trans S3).trans S4
      have S04 := S1.trans S14
      have hd4 := S14 _ _ hd1
      rw [Rat.mul_one] at hr4
      refine ⟨_, rfl, _, rfl, _, rfl, a, _, _, _, rfl, rfl, S04.seq ha, atI_nat (nl_at hky), d, _, rfl, DPut.k (k := Sum.inl ((ks.getD y.1 0 : Nat) : Int)) hd4 (small1000 (by omega)), ?_⟩
      have kv4 := (hkv.same S14).put hnd hr4
      have hv' : ∀ c, vOf (addR m (ks.getD y.1 0) y.2) c = sumQ (((l.take (i + 1)).filter fun p => decide (ks.getD p.1 0 = c)).map (·.2)) := fun c => by
        rw [vOf_add, hv1 c, List.take_succ_eq_append_getElem hil, hgi, List.filter_append, List.map_append]
        by_cases e : ks.getD y.1 0 = c
        · rw [if_pos e.symm, List.filter_cons_of_pos (by simpa using e), List.filter_nil]
          exact (sumQ_app _ _).symm
        · rw [if_neg (Ne.symm e), List.filter_cons_of_neg (by simpa using e), List.filter_nil, List.map_nil, List.append_nil, Rat.add_zero]
      refine ⟨addR m (ks.getD y.1 0) y.2, _, _, _, rfl, S04.fresh_upd hd _, upd_same, ⟨kv4.ks, datsR_kp hd4 (kp_upd _) kv4.vs⟩, addR_nd _ _ _ hnd, by have := addR_len m (ks.getD y.1 0) y.2; omega, hv', fun c hc => ?_⟩
      rw [vOf_add]
      have hp0 := hs.pos y hym
      have c0 : 0 ≤ vOf m c := by
        rw [hv1 c]
        exact (sumf_bd (pr := fun p => decide (ks.getD p.1 0 = c)) (l := l.take i) fun p hp => ⟨nn p (List.mem_of_mem_take hp), hs.wh p (List.mem_of_mem_take hp)⟩).1
      rcases (addR_keys m _ _ c).mp hc with z | z
      · rw [if_pos z]; grind
      · have := hpos c z
        split <;> grind
    · rintro σ H1 ⟨m, kvs, o3, o4, rfl, S1, hd1, hkv, hnd, hml, hv1, hpos⟩
      rw [hsl] at hml hv1
      rw [List.take_length] at hv1
      have hkvl : kvs.length = m.length := by have := congrArg List.length hkv.ks; simpa using this
      refine ⟨_, rfl, .inr (.inr (.inl ⟨rfl, .inl ⟨_, hd1⟩⟩)), d, _, rfl, rfl, hd1, fun iv hiv => ?_⟩
      have S2 : Same H1 (upd H1 iv (itemsO iv d)) := same_new _ hiv
      have e1 : kvs.map (fun kv => kV kv.1) = (m.map fun p => (p.1 : Int)).map V.int := by
        have : kvs.map (fun kv => kV kv.1) = (kvs.map (·.1)).map kV := by rw [List.map_map]; rfl
        rw [this, hkv.ks, List.map_map, List.map_map]
        rfl
      have nd2 : (m.map fun p => (p.1 : Int)).Nodup := by
        have : (m.map fun p => (p.1 : Int)) = (m.map (·.1)).map fun k : Nat => (k : Int) := by rw [List.map_map]; rfl
        rw [this]
        exact List.Pairwise.map _ (fun a b h z => h (Int.ofNat.inj z)) hnd
      refine ⟨iv, d, kvs, _, rfl, upd_same, S2 _ _ hd1, e1, by rw [List.length_map]; omega, nd2, fun p ts ml H2 hp1 hp2 htl hml0 S3 hts hm2 => ?_⟩
      rw [List.length_map] at hp1 htl
      have S12 := S2.trans S3
      have hpl : ∀ i ∈ p, i < m.length := fun i hi => List.mem_range.mp (hp1.mem_iff.mp hi)
      -- the pairs in order
      have dat : ∀ i, i < m.length → DatAt K H2 (.ref (ts.getD i 0)) (prD (m.getD i (0, 0))) := fun i hi => by
        have a1 : (m.map fun p => (p.1 : Int))[i]? = some (m[i].1 : Int) := by rw [List.getElem?_map, List.getElem?_eq_getElem hi]; rfl
        have a2 := List.getElem?_eq_getElem (l := kvs) (i := i) (by omega)
        have a3 := List.getElem?_eq_getElem (l := ts) (i := i) (by omega)
        have h := hts i _ _ _ a1 a2 a3
        have e2 : ts.getD i 0 = ts[i] := by rw [List.getD_eq_getElem?_getD, a3]; rfl
        have e3 : m.getD i (0, 0) = m[i] := by rw [List.getD_eq_getElem?_getD, List.getElem?_eq_getElem hi]; rfl
        rw [e2, e3]
        obtain ⟨u, hu1, hu2⟩ := hkv.vs.get (i := i) (d := ratD m[i].2) (by rw [List.getElem?_map, List.getElem?_eq_getElem hi]; rfl)
        rw [List.getElem?_map, a2] at hu1
        cases hu1
        exact .tup (SqT.of h) (.cons (.int _) (.cons (hu2.same S12) .nil))
      have dats : ∀ p : List Nat, (∀ i ∈ p, i < m.length) → DatsAt K H2 (p.map fun i => V.ref (ts.getD i 0)) ((p.map fun i => m.getD i (0, 0)).map prD) := fun p => by
        induction p with
        | nil => intro _; exact .nil
        | cons x t ih => intro h; exact .cons (dat x (h x List.mem_cons_self)) (ih fun i hi => h i (List.mem_cons_of_mem _ hi))
      have hperm : (p.map fun i => m.getD i (0, 0)).Perm m := by
        have e4 : (List.range m.length).map (fun i => m.getD i (0, 0)) = m := by
          refine List.ext_getElem (by simp) fun i a1 a2 => ?_
          simp [List.getD, a2]
        have := hp1.map fun i => m.getD i (0, 0)
        rw [e4] at this
        exact this
      have hl0 : H ml = none := by
        cases e9 : H ml with
        | none => rfl
        | some o => have := (S1.trans S2) _ _ e9; rw [hml0] at this; cases this
      refine q ml H2 _ _ hl0 (S1.trans S12) hm2 (dats p hpl) ⟨?_, fun c x => ?_⟩ (by rw [hperm.length_eq]; omega)
      · rw [List.map_map, List.pairwise_map]
        rw [List.pairwise_map] at hp2
        refine (List.Pairwise.and_mem.mp hp2).imp ?_
        rintro i j ⟨hi, hj, h⟩
        have gi : ∀ i, i < m.length → (m.map fun p => (p.1 : Int)).getD i 0 = ((m.getD i (0, 0)).1 : Int) := fun i hi => by
          rw [List.getD_eq_getElem?_getD, List.getElem?_map, List.getElem?_eq_getElem hi, List.getD_eq_getElem?_getD, List.getElem?_eq_getElem hi]
          rfl
        rw [gi i (hpl i hi), gi j (hpl j hj)] at h
        exact Int.ofNat_lt.mp h
      · have hv2 : vOf m c = sInL n l (fun j => ks.getD j 0) c := (hv1 c).trans (sum_into (f := fun j => ks.getD j 0) hs.room)
        rw [hperm.mem_iff, vOf_mem hnd, hv2]
        constructor
        · rintro ⟨h1, rfl⟩
          refine ⟨rfl, fun z => ?_⟩
          have := hpos c h1
          rw [hv2, z] at this
          exact absurd this (by decide)
        · rintro ⟨rfl, h2⟩
          refine ⟨?_, rfl⟩
          by_cases h3 : c ∈ m.map (·.1)
          · exact h3
          · exfalso
            have := vOf_no h3
            rw [hv2] at this
            exact h2 this
end
end Lw

namespace Lw
open PySem L2
/-! ### each room twice -/
theorem spr_wh {n : Nat} {ps : List (Int × Int)} (h : SprOk (n : Int) ps) : (toSp (totW ps) ps).length ≤ 3 ∧ ∀ p ∈ toSp (totW ps) ps, Wh 27720 p.2 := by
  have hW := tot_pos h
  refine ⟨by unfold toSp; rw [List.length_map]; exact h.few, fun p hp => ?_⟩
  obtain ⟨p', hp', rfl⟩ := List.mem_map.mp hp
  refine Wh.of_den ?_
  have hd := rat_den (u := p'.2) (l := totW ps) (by omega)
  have hf := frL_pos (u := p'.2) hW
  have ht := h.tot
  have : (((p'.2 : Rat) / (totW ps : Rat)).den : Int) = frL p'.2 (totW ps) := by
    rw [hd]
    unfold frL
    have : ((totW ps).natAbs : Int) = totW ps := by omega
    rw [this]
  have key : ∀ k : Fin 13, 1 ≤ k.val → k.val ∣ 27720 := by decide
  have hd1 : 1 ≤ ((p'.2 : Rat) / (totW ps : Rat)).den := by omega
  have hd2 : ((p'.2 : Rat) / (totW ps : Rat)).den ≤ 12 := by omega
  exact key ⟨_, Nat.lt_succ_of_le hd2⟩ hd1
theorem wk_of_law3 {ws : List (List (Int × Int))} (h : WlkOk ws) : ∃ rs, WkOk rs ∧ wlkD ws = wkD rs ∧ ∀ l ∈ rs, l.length ≤ 3 ∧ ∀ p ∈ l, Wh 27720 p.2 := by
  refine ⟨ws.map fun ps => toSp (totW ps) ps, ⟨by rw [List.length_map]; exact h.n1, by rw [List.length_map]; exact h.n8, fun l hl => ?_⟩, ?_, fun l hl => ?_⟩
  · obtain ⟨ps, hps, rfl⟩ := List.mem_map.mp hl
    rw [List.length_map]
    exact (spr_of_law (h.sp ps hps)).1
  · unfold wlkD wkD
    rw [List.map_map]
    congr 1
    exact List.map_congr_left fun ps hps => (spr_of_law (h.sp ps hps)).2
  · obtain ⟨ps, hps, rfl⟩ := List.mem_map.mp hl
    exact spr_wh (h.sp ps hps)
def dbl (m : Nat) (l : List (Nat × Rat)) : List (Nat × Rat) := (l.map fun p => (p.1, p.2 / 2)) ++ l.map fun p => (p.1 + m, p.2 / 2)
def dbw (m : Nat) (l : List (Nat × Rat)) : List (Nat × Rat) := l.flatMap fun p => [(p.1, p.2 / 2), (p.1 + m, p.2 / 2)]
theorem half_sum : ∀ (l : List (Nat × Rat)) (k : Nat), shSum (l.map fun p => (p.1 + k, p.2 / 2)) = shSum l / 2
  | [], _ => by show (0 : Rat) = 0 / 2; grind
  | p :: t, k => by
    show p.2 / 2 + shSum (t.map fun p => (p.1 + k, p.2 / 2)) = (p.2 + shSum t) / 2
    rw [half_sum t k]
    grind
theorem shSum_app : ∀ (a b : List (Nat × Rat)), shSum (a ++ b) = shSum a + shSum b
  | [], b => by show shSum b = 0 + shSum b; grind
  | p :: t, b => by
    show p.2 + shSum (t ++ b) = p.2 + shSum t + shSum b
    rw [shSum_app t b]
    grind
theorem dbl_mem {m : Nat} {l : List (Nat × Rat)} {x : Nat × Rat} : x ∈ dbl m l ↔ ∃ p ∈ l, x = (p.1, p.2 / 2) ∨ x = (p.1 + m, p.2 / 2) := by
  unfold dbl
  rw [List.mem_append, List.mem_map, List.mem_map]
  constructor
  · rintro (⟨p, hp, rfl⟩ | ⟨p, hp, rfl⟩)
    · exact ⟨p, hp, .inl rfl⟩
    · exact ⟨p, hp, .inr rfl⟩
  · rintro ⟨p, hp, rfl | rfl⟩
    · exact .inl ⟨p, hp, rfl⟩
    · exact .inr ⟨p, hp, rfl⟩
theorem dbw_mem {m : Nat} {l : List (Nat × Rat)} {x : Nat × Rat} : x ∈ dbw m l ↔ x ∈ dbl m l := by
  rw [dbl_mem]
  unfold dbw
  simp only [List.mem_flatMap, List.mem_cons, List.not_mem_nil, or_false]
theorem half_pos {q : Rat} (h : 0 < q) : 0 < q / 2 := by
  rw [Rat.lt_div_iff (by decide), Rat.zero_mul]
  exact h
theorem half_wh {q : Rat} (h : Wh 27720 q) : Wh 55440 (q / 2) := by
  obtain ⟨k, hk⟩ := h
  refine ⟨k, ?_⟩
  rw [← hk]
  have e : ((55440 : Nat) : Rat) = 2 * ((27720 : Nat) : Rat) := by rw [show (55440 : Nat) = 2 * 27720 by decide, Rat.natCast_mul]; rfl
  rw [e]
  grind
theorem dbl_rise {m : Nat} {l : List (Nat × Rat)} (hs : SpOk m l) : ((dbl m l).map (·.1)).Pairwise (· < ·) := by
  have hr := hs.rise
  unfold dbl
  rw [List.map_append, List.map_map, List.map_map, List.pairwise_append]
  refine ⟨hr, ?_, fun a ha b hb => ?_⟩
  · rw [List.pairwise_map] at hr ⊢
    exact hr.imp fun h => by show _ + m < _ + m; omega
  · obtain ⟨p, hp, rfl⟩ := List.mem_map.mp ha
    obtain ⟨p', _, rfl⟩ := List.mem_map.mp hb
    have := hs.room p hp
    show p.1 < p'.1 + m
    omega
theorem dbl_ok {m : Nat} {l : List (Nat × Rat)} (hs : SpOk m l) (h3 : l.length ≤ 3) (hw : ∀ p ∈ l, Wh 27720 p.2) : SpOk (m + m) (dbl m l) := by
  have few := hs.few
  refine ⟨by unfold dbl; rw [List.length_append, List.length_map, List.length_map]; omega, dbl_rise hs, fun x hx => ?_, fun x hx => ?_, ?_, fun x hx => ?_⟩
  · obtain ⟨p, hp, rfl | rfl⟩ := dbl_mem.mp hx <;> have := hs.room p hp
    · show p.1 < m + m; omega
    · show p.1 + m < m + m; omega
  · obtain ⟨p, hp, rfl | rfl⟩ := dbl_mem.mp hx <;> exact half_pos (hs.pos p hp)
  · unfold dbl
    have e := half_sum l 0
    simp only [Nat.add_zero] at e
    rw [shSum_app, e, half_sum, hs.one]
    grind
  · obtain ⟨p, hp, rfl | rfl⟩ := dbl_mem.mp hx <;> exact half_wh (hw p hp)
theorem dbw_nd {m : Nat} : ∀ {l : List (Nat × Rat)}, (l.map (·.1)).Pairwise (· < ·) → (∀ p ∈ l, p.1 < m) → ((dbw m l).map (·.1)).Nodup
  | [], _, _ => by simp [dbw]
  | p :: t, h, hm => by
    rw [List.map_cons, List.pairwise_cons] at h
    have ih := dbw_nd h.2 fun q hq => hm q (List.mem_cons_of_mem _ hq)
    have e : dbw m (p :: t) = (p.1, p.2 / 2) :: (p.1 + m, p.2 / 2) :: dbw m t := rfl
    rw [e, List.map_cons, List.map_cons, List.nodup_cons, List.nodup_cons]
    have hp := hm p List.mem_cons_self
    have no : ∀ k, k ∈ (dbw m t).map (·.1) → ∃ q ∈ t, k = q.1 ∨ k = q.1 + m := fun k hk => by
      obtain ⟨x, hx, rfl⟩ := List.mem_map.mp hk
      obtain ⟨q, hq, rfl | rfl⟩ := dbl_mem.mp (dbw_mem.mp hx)
      · exact ⟨q, hq, .inl rfl⟩
      · exact ⟨q, hq, .inr rfl⟩
    refine ⟨fun z => ?_, fun z => ?_, ih⟩
    · rcases List.mem_cons.mp z with z | z
      · have z : p.1 = p.1 + m := z; omega
      · obtain ⟨q, hq, z | z⟩ := no _ z
        · have := h.1 q.1 (List.mem_map_of_mem hq); have z : p.1 = q.1 := z; omega
        · have z : p.1 = q.1 + m := z; omega
    · obtain ⟨q, hq, z | z⟩ := no _ z
      · have := hm q (List.mem_cons_of_mem _ hq); have z : p.1 + m = q.1 := z; omega
      · have := h.1 q.1 (List.mem_map_of_mem hq); have z : p.1 + m = q.1 + m := z; omega
theorem dbw_len (m : Nat) : ∀ l : List (Nat × Rat), (dbw m l).length = 2 * l.length
  | [] => rfl
  | p :: t => by
    have e : dbw m (p :: t) = (p.1, p.2 / 2) :: (p.1 + m, p.2 / 2) :: dbw m t := rfl
    rw [e, List.length_cons, List.length_cons, List.length_cons, dbw_len m t]
    omega
theorem dbw_app (m : Nat) (a b : List (Nat × Rat)) : dbw m (a ++ b) = dbw m a ++ dbw m b := by simp [dbw]
theorem half_odd {q : Rat} (h : q.num % 2 ≠ 0) : (q / 2).num = q.num ∧ ((q / 2).den : Int) = 2 * (q.den : Int) := by
  have hd := q.den_nz
  have e : q / 2 = (q.num : Rat) / ((2 * (q.den : Int) : Int) : Rat) := by
    have e1 := rat_self q
    have n1 := rat_den_ne q
    rw [Rat.intCast_mul]
    have : ((2 : Int) : Rat) = 2 := rfl
    rw [this]
    grind
  have hne : (2 * (q.den : Int)) ≠ 0 := by omega
  have g1 : Int.gcd q.num (2 * (q.den : Int)) = 1 := by
    have c1 : q.num.natAbs.Coprime q.den := q.reduced
    have c2 : q.num.natAbs.Coprime 2 := by
      refine (Nat.coprime_comm.mp ?_)
      rw [Nat.coprime_iff_gcd_eq_one]
      have h2 : q.num.natAbs % 2 = 1 := by omega
      rw [Nat.gcd_rec, h2]
      decide
    have e2 : (2 * (q.den : Int)).natAbs = 2 * q.den := by omega
    show Nat.gcd q.num.natAbs (2 * (q.den : Int)).natAbs = 1
    rw [e2]
    exact Nat.Coprime.mul_right c2 c1
  have hs : (2 * (q.den : Int)).sign = 1 := Int.sign_eq_one_of_pos (by omega)
  rw [e]
  refine ⟨?_, ?_⟩
  · rw [rat_num hne, g1, hs]
    simp
  · rw [rat_den hne, g1]
    simp
    omega
theorem half_even {q : Rat} (h : q.num % 2 = 0) : (q / 2).num = q.num / 2 ∧ (q / 2).den = q.den := by
  have hd := q.den_nz
  have e : q / 2 = ((q.num / 2 : Int) : Rat) / ((q.den : Int) : Rat) := by
    have e1 := rat_self q
    have n1 := rat_den_ne q
    have e2 : (q.num : Rat) = 2 * ((q.num / 2 : Int) : Rat) := by
      have : q.num = 2 * (q.num / 2) := by omega
      conv => lhs; rw [this]
      rw [Rat.intCast_mul]
      rfl
    grind
  have hne : ((q.den : Int)) ≠ 0 := by omega
  have g1 : Int.gcd (q.num / 2) (q.den : Int) = 1 := by
    have c1 : q.num.natAbs.Coprime q.den := q.reduced
    have e2 : q.num.natAbs = 2 * (q.num / 2).natAbs := by omega
    show Nat.gcd (q.num / 2).natAbs q.den = 1
    rw [e2] at c1
    exact Nat.Coprime.coprime_mul_left c1
  have hs : ((q.den : Int)).sign = 1 := Int.sign_eq_one_of_pos (by omega)
  rw [e]
  refine ⟨?_, ?_⟩
  · rw [rat_num hne, g1, hs]
    simp
  · have := rat_den (u := q.num / 2) hne
    rw [g1] at this
    simp at this
    exact Int.ofNat.inj this
end Lw

namespace Lw
open PySem L2
theorem ite_join {b : Bool} {A : Prop} {R : St → Hp → Prop} {σ : St} {H : Hp} (Pv : St → Hp → Prop) (h1 : b = true → (∀ σ H, Pv σ H → R σ H) → A) (h0 : b = false → Pv σ H) (h : ∀ σ H, Pv σ H → R σ H) : if b = true then A else R σ H := by
  cases b with
  | true => exact iteT (h1 rfl h)
  | false => exact iteF (h _ _ (h0 rfl))
end Lw
namespace Lw
open PySem L2
def spDb (K : PySem.W.Frag) : Sp := fun vs H Q _ => ∃ (a : Addr) (ns : List Int) (v : V) (ws : List (List (Nat × Rat))), vs = [.ref a, v] ∧ SqL K H a (ns.map V.int) ∧ DatAt K H v (wkD ws) ∧ WkOk ws ∧ (∀ l ∈ ws, l.length ≤ 3 ∧ ∀ p ∈ l, Wh 27720 p.2) ∧ ∀ ws' r H', Same H H' → DatAt K H' r (wkD ws') → WkOk ws' → Q r H'
/-- the weights so far -/
def WUp (K : PySem.W.Frag) (H1 : Hp) (p : Addr) (W : List (Nat × Rat)) (ys : List V) (H : Hp) : Prop := Same H1 H ∧ H p = some (.lst ys) ∧ ys.length = W.length ∧ ∀ (j : Nat) x, W[j]? = some x → ∃ T v, ys[j]? = some (.ref T) ∧ H T = some (.tup [.int (x.1 : Nat), v]) ∧ DatAt K H v (ratD x.2)
theorem WUp.more {K : PySem.W.Frag} {H1 H H3 : Hp} {p T1 T2 : Addr} {W : List (Nat × Rat)} {ys : List V} {x y : Nat × Rat} {v u : V} (h : WUp K H1 p W ys H) (hp : H1 p = none) (S : Same H H3) (h1 : H3 T1 = some (.tup [.int (x.1 : Nat), v])) (h2 : H3 T2 = some (.tup [.int (y.1 : Nat), u])) (hv : DatAt K H3 v (ratD x.2)) (hu : DatAt K H3 u (ratD y.2)) :
    WUp K H1 p (W ++ [x, y]) (ys ++ [.ref T1, .ref T2]) (upd H3 p (.lst (ys ++ [.ref T1, .ref T2]))) := by
  obtain ⟨S1, g2, g3, g4⟩ := h
  have hp3 := S _ _ g2
  have tne : ∀ {T : Addr} {xs : List V}, H3 T = some (.tup xs) → T ≠ p := fun e z => by rw [z, hp3] at e; cases e
  refine ⟨(S1.trans S).fresh_upd hp _, upd_same, by simp [g3], fun j z hz => ?_⟩
  by_cases e : j < W.length
  · rw [List.getElem?_append_left e] at hz
    obtain ⟨T, v', e1, e2, e3⟩ := g4 j z hz
    have e2' := S _ _ e2
    exact ⟨T, v', by rw [List.getElem?_append_left (by omega)]; exact e1, by rw [upd_ne (tne e2')]; exact e2', DatAt.kp ⟨_, hp3⟩ (kp_upd _) rfl (e3.same S)⟩
  · rw [List.getElem?_append_right (by omega)] at hz
    rcases (show j - W.length = 0 ∨ j - W.length = 1 ∨ 2 ≤ j - W.length by omega) with k | k | k
    · rw [k] at hz
      cases hz
      refine ⟨T1, v, by rw [List.getElem?_append_right (by omega), g3, k]; rfl, by rw [upd_ne (tne h1)]; exact h1, DatAt.kp ⟨_, hp3⟩ (kp_upd _) rfl hv⟩
    · rw [k] at hz
      cases hz
      refine ⟨T2, u, by rw [List.getElem?_append_right (by omega), g3, k]; rfl, by rw [upd_ne (tne h2)]; exact h2, DatAt.kp ⟨_, hp3⟩ (kp_upd _) rfl hu⟩
    · rw [List.getElem?_eq_none (by simp; omega)] at hz
      cases hz
section
variable {P : Program} {w : World} {K : PySem.W.Frag} {mg : Str → Option Value} {base : Heap}
theorem ok_law_doubled {f fM : Addr} {fd fdM : FuncData} (B : Bn mg) (nb_enumerate : mg "enumerate" = none) (C_law_mixed : FnOk P w K mg base CX0 2 fM fdM p_law_mixed (spMixed K)) (G : Df K mg "_law_doubled" s_law_doubled p_law_doubled f fd) (G_law_mixed : Df K mg "_law_mixed" s_law_mixed p_law_mixed fM fdM) : FnOk P w K mg base CX0 3 f fd p_law_doubled (spDb K) := by
  refine G.F.okW sc_law_doubled (fun vs H Q E h => ?_) (fun cdv A outer s H vs Q E hr h => ?_)
  · obtain ⟨a, ns, v, ws, rfl, _⟩ := h
    rfl
  · obtain ⟨a, ns, v, ws, rfl, hS, hv, hok, h3, q⟩ := h
    have hr_law_mixed := hr
    have h8 := hok.n8
    have h1 := hok.n1
    have s2 : 2 ≤ sizeLine := by decide
    obtain ⟨wa, wvs, rfl, hwa, hwl, hwsp⟩ := dat_wk hv
    refine ⟨_, (wpss_cons (wps_if (wpw_pt (wpw_or (wpt_cmpR op_eq (wpe_callF C_law_mixed hr_law_mixed rfl G_law_mixed.m G_law_mixed.F.kp G_law_mixed.b pass0 (wpa_c (wpv 0) (wpa_c wpe_int (wpa_c wpe_int wpa_nil)))) wpe_int (nomark _)) (wpw_or1 (wpt_cmpR op_gt (wpe_callBF call_len_seq rfl B.len PySem.boot_len (wpa_c (wpv 1) wpa_nil)) wpe_int (nomark _))))) (wpss_one (wps_ret (wpv 1))) wpss_nil) (wpss_cons (wps_set (i := 2) sc_law_doubled.nd rfl (Or.inl rfl) (wpe_callBF call_len_seq rfl B.len PySem.boot_len (wpa_c (wpv 1) wpa_nil))) (wpss_cons (wps_set (i := 3) sc_law_doubled.nd rfl (Or.inl rfl) (wpe_lstN wpa_nil)) (wpss_cons (wps_for PassesOwn.never rfl (wpi_range1 rfl B.range (wpa_c wpe_int wpa_nil)) (wpg_name (i := 4) sc_law_doubled.nd rfl (Or.inl rfl)) (wpss_one (wps_for PassesOwn.never rfl (wpi_tup (wpv 1)) (wpg_name (i := 5) sc_law_doubled.nd rfl (Or.inl rfl)) (wpss_cons (wps_set (i := 6) sc_law_doubled.nd rfl (Or.inl rfl) (wpe_lstN wpa_nil)) (wpss_cons (wps_for PassesOwn.never rfl (wpi_enum true rfl nb_enumerate (wpa_c (wpv 5) wpa_nil)) (wpg_tup rfl (wpgs_cons (wpg_name (i := 7) sc_law_doubled.nd rfl (Or.inl rfl)) (wpgs_cons (wpg_name (i := 8) sc_law_doubled.nd rfl (Or.inl rfl)) wpgs_nil))) (wpss_cons (wps_set (i := 9) sc_law_doubled.nd rfl (Or.inl rfl) (wpe_tupN (wpa_c (wpe_ix ix_tup (wpe_ix ix_tup (wpv 8) wpe_int (fun _ _ => rfl)) wpe_int (fun _ _ => rfl)) (wpa_c (wpe_op op_mul wpe_int (wpe_ix ix_tup (wpe_ix ix_tup (wpv 8) wpe_int (fun _ _ => rfl)) wpe_int (fun _ _ => rfl))) wpa_nil)))) (wpss_cons (wps_if (wpt_cmpR op_eq (wpe_op op_mod (wpe_ix ix_tup (wpv 9) wpe_int (fun _ _ => rfl)) wpe_int) wpe_int (nomark _)) (wpss_one (wps_set (i := 9) sc_law_doubled.nd rfl (Or.inl rfl) (wpe_tupN (wpa_c (wpe_op op_fdiv (wpe_ix ix_tup (wpe_ix ix_tup (wpv 8) wpe_int (fun _ _ => rfl)) wpe_int (fun _ _ => rfl)) wpe_int) (wpa_c (wpe_ix ix_tup (wpe_ix ix_tup (wpv 8) wpe_int (fun _ _ => rfl)) wpe_int (fun _ _ => rfl)) wpa_nil))))) wpss_nil) (wpss_one (wps_expr (wpe_bmF PySem.F.plainAttrs_list PySem.F.slot_list_extend PySem.F.type_list_extend mt_extend (wpv 6) (wpa_c (wpe_lstN (wpa_c (wpe_tupN (wpa_c (wpe_ix ix_tup (wpv 8) wpe_int (fun _ _ => rfl)) (wpa_c (wpv 9) wpa_nil))) (wpa_c (wpe_tupN (wpa_c (wpe_op op_add (wpe_ix ix_tup (wpv 8) wpe_int (fun _ _ => rfl)) (wpv 2)) (wpa_c (wpv 9) wpa_nil))) wpa_nil))) wpa_nil))))))) (wpss_one (wps_expr (wpe_bmF PySem.F.plainAttrs_list PySem.F.slot_list_append PySem.F.type_list_append mt_append (wpv 3) (wpa_c (wpe_callTyF call_tuple_ofN rfl B.tuple PyProof.Rows.boot_tuple (wpa_c (wpe_callBF call_sorted_tups rfl B.sorted PyProof.Rows.boot_sorted (wpa_c (wpv 6) wpa_nil)) wpa_nil)) wpa_nil))))))))) (wpss_one (wps_ret (wpe_callTyF call_tuple_ofN rfl B.tuple PyProof.Rows.boot_tuple (wpa_c (wpv 3) wpa_nil)))))))), ?_⟩
    refine ⟨_, rfl, a, ns, 80, 2, rfl, hS, by decide, by decide, by decide, fun b H1 S1 b0 b2 => ?_⟩
    refine ⟨rfl, _, rfl, ?_⟩
    by_cases eb : V.int b = V.int 0
    · exact decT eb ⟨_, rfl, q ws _ H1 S1 (hv.same S1) hok⟩
    refine decF eb ⟨_, rfl, wa, _, rfl, .inr (S1.seqT hwa), _, _, rfl, rfl, _, rfl, ?_⟩
    by_cases e4 : (wvs.length : Int) > 4
    · exact decT e4 ⟨_, rfl, q ws _ H1 S1 (hv.same S1) hok⟩
    refine decF e4 ?_
    refine ⟨_, rfl, wa, _, rfl, .inr (S1.seqT hwa), ?_⟩
    refine ⟨Nat.zero_le _, fun ml H2 ml0 S2 hml => ?_⟩
    have S02 := S1.trans S2
    have n4 : ws.length ≤ 4 := by omega
    let rT : Nat → List (List (Nat × Rat)) := fun t => (List.replicate t (ws.map (dbl ws.length))).flatten
    have nLr : ∀ r : List (List (Nat × Rat)), noLs (r.map spD) = true := fun r => noLs_all fun k d hd => by
      rw [List.getElem?_map] at hd
      cases e2 : r[k]? with
      | none => rw [e2] at hd; cases hd
      | some y => rw [e2] at hd; cases hd; exact noL_spD _
    have rTl : ∀ t, (rT t).length = t * ws.length := fun t => by
      show ((List.replicate t (ws.map (dbl ws.length))).flatten).length = _
      rw [len_rep, List.length_map]
    refine ⟨_, rfl, by decide, by decide, ?_⟩
    refine for_range (lo := 0) (n := (2 : Int).toNat) (fun t ρ H3 => ∃ (ys : List V) (o4 o5 o6 o7 o8 o9 : Option V), ρ = [some (.ref a), some (.ref wa), some (.int (wvs.length : Nat)), some (.ref ml), o4, o5, o6, o7, o8, o9] ∧ Same H H3 ∧ H3 ml = some (.lst ys) ∧ DatsAt K H3 ys ((rT t).map spD)) ⟨[], none, none, none, none, none, none, rfl, S02, hml, .nil⟩ ?_ ?_
    · rintro t ρ H3 ht ⟨ys0, o4, o5, o6, o7, o8, o9, rfl, S3, hml3, hys0⟩
      have ht : t < 2 := ht
      refine ⟨_, rfl, wa, rfl, ⟨_, S3.seqT hwa⟩, for_tup (K := K) (a := wa) (xs := wvs) (fun i ρ H4 => ∃ (ys : List V) (o5 o6 o7 o8 o9 : Option V), ρ = [some (.ref a), some (.ref wa), some (.int (wvs.length : Nat)), some (.ref ml), some (.int (0 + (t : Int))), o5, o6, o7, o8, o9] ∧ Same H H4 ∧ H4 ml = some (.lst ys) ∧ DatsAt K H4 ys ((rT t ++ (ws.take i).map (dbl ws.length)).map spD))
        ⟨ys0, _, _, _, _, _, rfl, S3, hml3, by rw [List.take_zero, List.map_nil, List.append_nil]; exact hys0⟩ (fun i ρ H4 _ ⟨_, _, _, _, _, _, _, S, _⟩ => S.seqT hwa) ?_ ?_⟩
      · rintro i x ρ H4 hx ⟨ys, o5, o6, o7, o8, o9, rfl, S4, hml4, hys⟩
        have hi : i < ws.length := by rw [← hwl]; exact (List.getElem?_eq_some_iff.mp hx).1
        obtain ⟨x', hx', hxd⟩ := hwsp i hi
        rw [hx] at hx'
        cases hx'
        have hlm := getD_mem (d := []) hi
        have hs := hok.sp _ hlm
        obtain ⟨l3, lw⟩ := h3 _ hlm
        obtain ⟨l, hl⟩ : ∃ l, ws.getD i [] = l := ⟨_, rfl⟩
        rw [hl] at hxd hs l3 lw
        obtain ⟨sa, svs, rfl, hsa, hsl, hsv⟩ := dat_sp hxd
        have hyl : ys.length = t * ws.length + i := by rw [hys.length, List.length_map, List.length_append, rTl, List.length_map, List.length_take]; omega
        have hyl2 : ys.length ≤ 12 := by
          have : t * ws.length ≤ 1 * ws.length := Nat.mul_le_mul_right _ (by omega)
          omega
        refine ⟨Nat.zero_le _, fun wl H5 wl0 S5 hwl5 => ?_⟩
        have S05 := S4.trans S5
        refine ⟨_, rfl, sa, rfl, ⟨_, S05.seqT hsa⟩, for_enum (K := K) (pb := true) (a := sa) (xs := svs) (fun j ρ H6 => ∃ (zs : List V) (o7 o8 o9 : Option V), ρ = [some (.ref a), some (.ref wa), some (.int (wvs.length : Nat)), some (.ref ml), some (.int (0 + (t : Int))), some (.ref sa), some (.ref wl), o7, o8, o9] ∧ WUp K H4 wl (dbw ws.length (l.take j)) zs H6)
          ⟨[], _, _, _, rfl, S5, hwl5, by rw [List.take_zero]; rfl, fun j x hx => by rw [List.take_zero] at hx; simp [dbw] at hx⟩ (fun j ρ H6 _ ⟨_, _, _, _, _, h⟩ => (S4.trans h.1).seqT hsa) ?_ ?_⟩
        · rintro j x T ρ H6 hx6 hT ⟨zs, o7, o8, o9, rfl, up⟩
          obtain ⟨y, hy, hyd⟩ := hsv j x hx6
          obtain ⟨pa, sv, rfl, hpa, hsv'⟩ := dat_pair hyd
          obtain ⟨sva, rfl, hsva⟩ := datR hsv'
          have S6 : Same H6 (upd H6 T (.tup [.int j, .ref pa])) := same_fresh _ hT
          have S06 := (S4.trans up.1).trans S6
          obtain ⟨hjl, hgj⟩ := List.getElem?_eq_some_iff.mp hy
          refine ⟨T, _, rfl, SqT.of upd_same, rfl, _, _, rfl, _, _, rfl, rfl, ?_⟩
          refine ⟨_, rfl, pa, _, _, _, rfl, rfl, S06.seqT hpa, rfl, sva, _, _, _, rfl, rfl, S06.seqT hsva, rfl, ?_⟩
          refine ⟨_, rfl, pa, _, _, _, rfl, rfl, S06.seqT hpa, rfl, sva, _, _, _, rfl, rfl, S06.seqT hsva, rfl, _, _, rfl, rfl, .inl ⟨by decide, by decide⟩, s2, fun sh H7 _ S7 hsh => ?_⟩
          have S07 := S06.trans S7
          have S67 := S6.trans S7
          refine ⟨_, rfl, sh, _, _, _, rfl, rfl, SqT.of hsh, rfl, _, _, rfl, rfl, (show (0 : Int) < 2 by decide), rfl, _, rfl, ?_⟩
          refine ite_join (fun σ' H' => ∃ sh', σ' = [some (.ref a), some (.ref wa), some (.int (wvs.length : Nat)), some (.ref ml), some (.int (0 + (t : Int))), some (.ref sa), some (.ref wl), some (.int j), some (.ref pa), some (.ref sh')] ∧ Same H7 H' ∧ DatAt K H' (.ref sh') (ratD (y.2 / 2))) (fun he jn => ?_) (fun he => ?_) ?_
          · have he : y.2.num % 2 = 0 := V.int.inj (of_decide_eq_true he)
            refine ⟨_, rfl, pa, _, _, _, rfl, rfl, S07.seqT hpa, rfl, sva, _, _, _, rfl, rfl, S07.seqT hsva, rfl, _, _, rfl, rfl, ⟨(show (0 : Int) < 2 by decide), (show (2 : Int) < 1073741824 by decide)⟩, ?_⟩
            refine ⟨_, rfl, pa, _, _, _, rfl, rfl, S07.seqT hpa, rfl, sva, _, _, _, rfl, rfl, S07.seqT hsva, rfl, s2, fun sh2 H8 _ S8 hsh2 => ?_⟩
            refine jn _ _ ⟨sh2, rfl, S8, ?_⟩
            obtain ⟨e1, e2⟩ := half_even he
            refine datR_mk ?_
            rw [e1, e2]
            exact SqT.of hsh2
          · have he : ¬ y.2.num % 2 = 0 := fun z => of_decide_eq_false he (show V.int (y.2.num % 2) = V.int 0 by rw [z])
            obtain ⟨e1, e2⟩ := half_odd he
            refine ⟨sh, rfl, Same.refl _, datR_mk ?_⟩
            rw [e1, e2]
            exact SqT.of hsh
          · rintro σ' H8 ⟨sh', rfl, S8, hsh'⟩
            have S08 := S07.trans S8
            have S68 := S67.trans S8
            have hwl8 := S68 _ _ up.2.1
            refine ⟨_, rfl, .inl ⟨rfl, _, SqL.of hwl8⟩, ?_⟩
            refine ⟨_, rfl, pa, _, _, _, rfl, rfl, S08.seqT hpa, rfl, _, rfl, s2, fun T1 H9 _ S9 hT1 => ?_⟩
            have S09 := S08.trans S9
            refine ⟨_, rfl, pa, _, _, _, rfl, rfl, S09.seqT hpa, rfl, _, rfl, _, _, rfl, rfl, _, rfl, s2, fun T2 H10 _ S10 hT2 => ?_⟩
            refine ⟨s2, fun bl H11 _ S11 hbl => ?_⟩
            have S811 := (S9.trans S10).trans S11
            have hzl := up.2.2.1
            rw [dbw_len, List.length_take] at hzl
            refine ⟨wl, bl, zs, _, rfl, rfl, S811 _ _ hwl8, hbl, Nat.le_of_lt (small1000 (by simp; omega)), ?_⟩
            have tk : l.take (j + 1) = l.take j ++ [y] := by rw [List.take_succ_eq_append_getElem hjl, hgj]
            have up2 := up.more (x := (y.1, y.2 / 2)) (y := (y.1 + ws.length, y.2 / 2)) wl0 (S68.trans S811) (S11 _ _ (S10 _ _ hT1)) (by rw [S11 _ _ hT2, hwl]; rfl) (hsh'.same S811) (hsh'.same S811)
            refine ⟨zs ++ [.ref T1, .ref T2], _, _, _, rfl, ?_⟩
            rw [tk, dbw_app]
            exact up2
        · rintro ρ H6 ⟨zs, o7, o8, o9, rfl, up⟩
          rw [hsl, List.take_length] at up
          obtain ⟨u1, u2, u3, u4⟩ := up
          have hl9 := dbw_len ws.length l
          have few := hs.few
          have nd2 : ((dbw ws.length l).map fun p => (p.1 : Int)).Nodup := by
            have : ((dbw ws.length l).map fun p => (p.1 : Int)) = ((dbw ws.length l).map (·.1)).map fun k : Nat => (k : Int) := by rw [List.map_map]; rfl
            rw [this]
            exact List.Pairwise.map _ (fun a b h z => h (Int.ofNat.inj z)) (dbw_nd hs.rise hs.room)
          refine ⟨_, rfl, .inl ⟨rfl, _, SqL.of (u1 _ _ hml4)⟩, ?_⟩
          refine ⟨_, rfl, wl, zs, (dbw ws.length l).map (fun p => (p.1 : Int)), rfl, SqL.of u2, by rw [List.length_map, u3], by rw [List.length_map]; omega, nd2, fun k y x hy hx9 => ?_, fun sl H7 p hp1 hp2 _ S7 hsl7 => ?_⟩
          · rw [List.getElem?_map] at hx9
            cases e9 : (dbw ws.length l)[k]? with
            | none => rw [e9] at hx9; cases hx9
            | some z =>
              rw [e9] at hx9
              cases hx9
              obtain ⟨T, v9, a1, a2, a3⟩ := u4 k z e9
              rw [hy] at a1
              cases a1
              exact ⟨T, _, rfl, a2⟩
          rw [u3] at hp1
          have hpl : ∀ i ∈ p, i < (dbw ws.length l).length := fun i hi => List.mem_range.mp (hp1.mem_iff.mp hi)
          have dat : ∀ i, i < (dbw ws.length l).length → DatAt K H7 (zs.getD i .non) (.tup [.int ((dbw ws.length l).getD i (0, 0)).1, ratD ((dbw ws.length l).getD i (0, 0)).2]) := fun i hi => by
            obtain ⟨T, v9, a1, a2, a3⟩ := u4 i _ (List.getElem?_eq_getElem hi)
            have g1 : zs.getD i .non = .ref T := by rw [List.getD_eq_getElem?_getD, a1]; rfl
            have g2 : (dbw ws.length l).getD i (0, 0) = (dbw ws.length l)[i] := by rw [List.getD_eq_getElem?_getD, List.getElem?_eq_getElem hi]; rfl
            rw [g1, g2]
            exact .tup (SqT.of (S7 _ _ a2)) (.cons (.int _) (.cons (a3.same S7) .nil))
          have dats : ∀ p : List Nat, (∀ i ∈ p, i < (dbw ws.length l).length) → DatsAt K H7 (p.map fun i => zs.getD i .non) ((p.map fun i => (dbw ws.length l).getD i (0, 0)).map fun p => .tup [.int p.1, ratD p.2]) := fun p => by
            induction p with
            | nil => intro _; exact .nil
            | cons x t ih => intro h; exact .cons (dat x (h x List.mem_cons_self)) (ih fun i hi => h i (List.mem_cons_of_mem _ hi))
          have hperm : (p.map fun i => (dbw ws.length l).getD i (0, 0)).Perm (dbw ws.length l) := by
            have e4 : (List.range (dbw ws.length l).length).map (fun i => (dbw ws.length l).getD i (0, 0)) = dbw ws.length l := by
              refine List.ext_getElem (by simp) fun i a1 a2 => ?_
              simp [List.getD, a2]
            have := hp1.map fun i => (dbw ws.length l).getD i (0, 0)
            rw [e4] at this
            exact this
          have hrise : ((p.map fun i => (dbw ws.length l).getD i (0, 0)).map (·.1)).Pairwise (· < ·) := by
            rw [List.map_map, List.pairwise_map]
            rw [List.pairwise_map] at hp2
            refine (List.Pairwise.and_mem.mp hp2).imp ?_
            rintro i j ⟨hi, hj, h⟩
            have gi : ∀ i, i < (dbw ws.length l).length → ((dbw ws.length l).map fun p => (p.1 : Int)).getD i 0 = (((dbw ws.length l).getD i (0, 0)).1 : Int) := fun i hi => by
              rw [List.getD_eq_getElem?_getD, List.getElem?_map, List.getElem?_eq_getElem hi, List.getD_eq_getElem?_getD, List.getElem?_eq_getElem hi]
              rfl
            rw [gi i (hpl i hi), gi j (hpl j hj)] at h
            exact Int.ofNat_lt.mp h
          have eqd : (p.map fun i => (dbw ws.length l).getD i (0, 0)) = dbl ws.length l := rise_ext hrise (dbl_rise hs) fun x => by rw [hperm.mem_iff, dbw_mem]
          have dd := dats p hpl
          rw [eqd] at dd
          refine ⟨sl, _, rfl, .inl (SqL.of hsl7), fun tp H8 S8 htp => ?_⟩
          have hml8 := S8 _ _ (S7 _ _ (u1 _ _ hml4))
          refine ⟨ml, ys, _, rfl, rfl, hml8, small1000 (by omega), ?_⟩
          refine ⟨_, _, _, _, _, _, rfl, (((S4.trans u1).trans S7).trans S8).fresh_upd (S1.free ml0) _, upd_same, ?_⟩
          have tk : ws.take (i + 1) = ws.take i ++ [l] := by
            rw [List.take_succ_eq_append_getElem hi, ← hl]
            congr 2
            rw [List.getD_eq_getElem?_getD, List.getElem?_eq_getElem hi]
            rfl
          rw [show rT t ++ (ws.take (i + 1)).map (dbl ws.length) = (rT t ++ (ws.take i).map (dbl ws.length)) ++ [dbl ws.length l] by rw [tk, List.map_append, ← List.append_assoc]; rfl, List.map_append]
          refine (DatsAt.kp ⟨_, hml8⟩ (kp_upd _) (nLr _) (hys.same ((u1.trans S7).trans S8))).append (.cons (DatAt.kp ⟨_, hml8⟩ (kp_upd _) (noL_spD _) (.tup htp (dd.same S8))) .nil)
      · rintro ρ H4 ⟨ys, o5, o6, o7, o8, o9, rfl, S4, hml4, hys⟩
        rw [hwl, List.take_length] at hys
        refine ⟨ys, _, _, _, _, _, _, rfl, S4, hml4, ?_⟩
        have e : rT (t + 1) = rT t ++ ws.map (dbl ws.length) := by
          show (List.replicate (t + 1) _).flatten = (List.replicate t _).flatten ++ _
          rw [List.replicate_succ', List.flatten_append]
          simp
        rw [e]
        exact hys
    · rintro ρ H3 ⟨ys, o4, o5, o6, o7, o8, o9, rfl, S3, hml3, hys⟩
      have e : rT (2 : Int).toNat = ws.map (dbl ws.length) ++ ws.map (dbl ws.length) := by
        show (List.replicate 2 (ws.map (dbl ws.length))).flatten = _
        simp [List.replicate]
      rw [e] at hys
      refine ⟨_, rfl, ml, _, rfl, .inl (SqL.of hml3), fun r H4 S4 hr4 => ?_⟩
      have len : (ws.map (dbl ws.length) ++ ws.map (dbl ws.length)).length = ws.length + ws.length := by simp
      refine q _ (.ref r) H4 (S3.trans S4) (.tup hr4 (hys.same S4)) ⟨by omega, by omega, fun l hl => ?_⟩
      rw [len]
      have : l ∈ ws.map (dbl ws.length) := by rcases List.mem_append.mp hl with z | z <;> exact z
      obtain ⟨l', hl', rfl⟩ := List.mem_map.mp this
      exact dbl_ok (hok.sp l' hl') (h3 l' hl').1 (h3 l' hl').2
end
end Lw

namespace Lw
open PySem L2
theorem SUp.congr {K : PySem.W.Frag} {H1 H : Hp} {p : Addr} {g : Nat → Nat} {es es' : Nat → List D} {i : Nat} {ys : List V} (h : SUp K H1 p g es i ys H) (e : ∀ j, j < i → es j = es' j) : SUp K H1 p g es' i ys H := by
  obtain ⟨S1, h2, h3, h4⟩ := h
  refine ⟨S1, h2, h3, fun j hj => ?_⟩
  obtain ⟨T, r, zs, e1, e2, e3, e4, e5⟩ := h4 j hj
  rw [e j hj] at e5
  exact ⟨T, r, zs, e1, e2, e3, e4, e5⟩
theorem dep_pr (l : List (Nat × Rat)) : depD (.lst (l.map prD)) ≤ 40 := by
  have : depDs (l.map prD) ≤ 2 := by
    induction l with
    | nil => simp [depDs]
    | cons x t ih =>
      have e : depD (prD x) = 2 := by simp [prD, ratD, depD, depDs]
      simp only [List.map_cons, depDs]
      omega
  simp only [depD]
  omega
theorem noL_pr (l : List (Nat × Rat)) : noLs (l.map prD) = true := noLs_all fun k d hd => by
  rw [List.getElem?_map] at hd
  cases e2 : l[k]? with
  | none => rw [e2] at hd; cases hd
  | some y => rw [e2] at hd; cases hd; rfl
/-- the law's chain ends where the program's does -/
theorem lk_law {ws : List (List (Nat × Rat))} {ms ks : List Nat} {c gc : Nat → Nat → Nat} {k : Nat} (lk : Lk ws ms ks c k) (hk : 0 < k) (fx : ∀ i, i < ws.length → c k i = c (k - 1) i) (hn : 0 < ws.length) (g0 : ∀ i, i < ws.length → gc 0 i = ms.getD i 0) (hg : Chn ws.length (pOf ws) gc ws.length) :
    ∀ i, i < ws.length → ks.getD i 0 = gc ws.length i := fun i hi => by
  have e0 : Eqv ws.length (c 0) (gc 0) := fun a b ha hb => by
    have := lk.nm
    rw [g0 a ha, g0 b hb]
    constructor
    · intro e
      have x := (lk.c0 a ha).r
      have y := (lk.c0 b hb).r
      rw [e] at x
      exact x.symm.trans y
    · intro e
      exact ((lk.c0 a ha).of (R' := fun z _ => ms.getD z 0 = ms.getD b 0) ha fun z _ => by rw [e]).uniq ⟨(lk.c0 b hb).lt, (lk.c0 b hb).r, (lk.c0 b hb).no⟩
  have eqs : ∀ t, t + 1 ≤ k → t + 1 ≤ ws.length → ∀ i, i < ws.length → c (t + 1) i = gc (t + 1) i := by
    intro t
    induction t with
    | zero => intro h1 h2; exact Nxt.eqv e0 (lk.ch 0 (by omega)) (hg 0 (by omega))
    | succ t ih =>
      intro h1 h2
      have := ih (by omega) (by omega)
      exact Nxt.eqv (fun a b ha hb => by rw [this a ha, this b hb]) (lk.ch (t + 1) (by omega)) (hg (t + 1) (by omega))
  have eqk : ∀ t, 0 < t → t ≤ k → t ≤ ws.length → ∀ i, i < ws.length → c t i = gc t i := fun t h1 h2 h3 => by
    obtain ⟨u, rfl⟩ : ∃ u, t = u + 1 := ⟨t - 1, by omega⟩
    exact eqs u h2 h3
  have ch : Chn ws.length (pOf ws) (fun t => if t ≤ k then c t else gc t) (max k ws.length) := fun t ht => by
    by_cases h1 : t + 1 ≤ k
    · simp only [show t ≤ k by omega, h1, if_true]
      exact lk.ch t (by omega)
    · by_cases h2 : t ≤ k
      · have et : t = k := by omega
        subst et
        simp only [Nat.le_refl, if_true, h1, if_false]
        intro j hj
        have hE : Eqv ws.length (gc t) (c t) := fun a b ha hb => by rw [eqk t hk (Nat.le_refl _) (by omega) a ha, eqk t hk (Nat.le_refl _) (by omega) b hb]
        exact (hg t (by omega) j hj).of hj fun z hz => Sg.eqv hE hz hj
      · simp only [h1, h2, if_false]
        exact hg t (by omega)
  have e1 := chn_end (k := k) hn (by simp only [Nat.zero_le, if_true]; exact lk.nm) ch hk (fun i hi => by
    simp only [Nat.le_refl, if_true, show k - 1 ≤ k by omega]
    exact fx i hi) i hi
  simp only [Nat.le_refl, if_true] at e1
  rw [lk.ck i hi, e1]
  by_cases h1 : ws.length ≤ k
  · simp only [h1, if_true]
    exact eqk _ hn h1 (Nat.le_refl _) i hi
  · simp only [h1, if_false]
def spLaw (K : PySem.W.Frag) : Sp := fun vs H Q _ => ∃ (a : Addr) (ns : List Int), vs = [.ref a] ∧ SqL K H a (ns.map V.int) ∧ ∀ H', Q (.bl true) H'
section
variable {P : Program} {w : World} {K : PySem.W.Frag} {mg : Str → Option Value} {base : Heap}
theorem ok_law {f fW fD fM fS fL : Addr} {fd fdW fdD fdM fdS fdL : FuncData} (B : Bn mg) (C_law_walk : FnOk P w K mg base CX0 4 fW fdW p_law_walk (spWalk K)) (C_law_doubled : FnOk P w K mg base CX0 3 fD fdD p_law_doubled (spDb K)) (C_law_mixed : FnOk P w K mg base CX0 2 fM fdM p_law_mixed (spMixed K)) (C_law_shares : FnOk P w K mg base CX0 4 fS fdS p_law_shares (spLsh K)) (C_likeness : FnOk P w K mg base CX0 8 fL fdL p_likeness (spLik K))
    (G : Df K mg "law" s_law p_law f fd) (G_law_walk : Df K mg "_law_walk" s_law_walk p_law_walk fW fdW) (G_law_doubled : Df K mg "_law_doubled" s_law_doubled p_law_doubled fD fdD) (G_law_mixed : Df K mg "_law_mixed" s_law_mixed p_law_mixed fM fdM) (G_law_shares : Df K mg "_law_shares" s_law_shares p_law_shares fS fdS) (G_likeness : Df K mg "likeness" s_likeness p_likeness fL fdL) :
    FnOk P w K mg base CX0 9 f fd p_law (spLaw K) := by
  refine G.F.okW sc_law (fun vs H Q E h => ?_) (fun cdv A outer s H vs Q E hr h => ?_)
  · obtain ⟨a, ns, rfl, _⟩ := h
    rfl
  · obtain ⟨a, ns, rfl, hS, q⟩ := h
    have hr_law_walk : Room 4 _ := hr.mono (by decide)
    have hr_law_doubled : Room 3 _ := hr.mono (by decide)
    have hr_law_mixed : Room 2 _ := hr.mono (by decide)
    have hr_law_shares : Room 4 _ := hr.mono (by decide)
    have hr_likeness : Room 8 _ := hr
    have s2 : 2 ≤ sizeLine := by decide
    refine ⟨_, (wpss_cons (wps_set (i := 1) sc_law.nd rfl (Or.inr rfl) (wpe_callF C_law_doubled hr_law_doubled rfl G_law_doubled.m G_law_doubled.F.kp G_law_doubled.b pass0 (wpa_c (wpv 0) (wpa_c (wpe_callF C_law_walk hr_law_walk rfl G_law_walk.m G_law_walk.F.kp G_law_walk.b pass0 (wpa_c (wpv 0) (wpa_c wpe_int wpa_nil))) wpa_nil)))) (wpss_cons (wps_setc (i := 2) sc_law.nd rfl rfl (NB := ["_law_room", "_law_script"]) (n := 1) (capN := [0]) (by exact ⟨rfl, by decide, rfl, by decide, ⟨rfl, trivial⟩, rfl, rfl, rfl, rfl, rfl⟩) rfl (gk_name (by decide)) (wpi_range1 rfl B.range (wpa_c (wpe_callBF call_len_seq rfl B.len PySem.boot_len (wpa_c (wpv 1) wpa_nil)) wpa_nil)) (fun _ _ _ _ => (wpg_name (i := 0) (show (["_law_room", "_law_script"] : List Str).Nodup by decide +kernel) rfl (Or.inl rfl))) (fun _ _ _ _ => wpts_nil) (fun _ _ _ _ => (wpe_callF C_law_mixed hr_law_mixed rfl G_law_mixed.m G_law_mixed.F.kp G_law_mixed.b pass0 (wpa_c (wpv 1) (wpa_c (wpe_op op_add wpe_int (wpe_op op_mod (wpv 0) wpe_int)) (wpa_c wpe_int wpa_nil)))))) (wpss_cons (wps_set (i := 3) sc_law.nd rfl (Or.inr rfl) (wpe_callTyF call_list_ofN rfl B.list PyProof.Rows.boot_list (wpa_c (wpv 2) wpa_nil))) (wpss_cons (wps_for PassesOwn.never rfl (wpi_range1 rfl B.range (wpa_c (wpe_callBF call_len_seq rfl B.len PySem.boot_len (wpa_c (wpv 1) wpa_nil)) wpa_nil)) (wpg_name (i := 4) sc_law.nd rfl (Or.inl rfl)) (wpss_cons (wps_set (i := 5) sc_law.nd rfl (Or.inr rfl) (wpe_comp (NB := ["_law_room", "_law_kinds", "_law_walk_here"]) (n := 1) (capN := [3, 1]) (by exact ⟨rfl, by decide, rfl, by decide, ⟨rfl, rfl, trivial⟩, rfl, rfl, rfl, rfl, rfl⟩) rfl (gk_name (by decide)) (wpi_range1 rfl B.range (wpa_c (wpe_callBF call_len_seq rfl B.len PySem.boot_len (wpa_c (wpv 1) wpa_nil)) wpa_nil)) (fun _ _ _ _ => (wpg_name (i := 0) (show (["_law_room", "_law_kinds", "_law_walk_here"] : List Str).Nodup by decide +kernel) rfl (Or.inl rfl))) (fun _ _ _ _ => wpts_nil) (fun _ _ _ _ => (wpe_tupN (wpa_c (wpe_ix (ix_list_K (K := K) rfl) (wpv 1) (wpv 0) (fun _ _ => rfl)) (wpa_c (wpe_callF C_law_shares hr_law_shares rfl G_law_shares.m G_law_shares.F.kp G_law_shares.b pass0 (wpa_c (wpe_ix (ix_tup_K (K := K) rfl) (wpv 2) (wpv 0) (fun _ _ => rfl)) (wpa_c (wpv 1) wpa_nil))) wpa_nil)))))) (wpss_one (wps_set (i := 3) sc_law.nd rfl (Or.inr rfl) (wpe_comp (NB := ["_law_sign", "_law_signs"]) (n := 1) (capN := [5]) (by exact ⟨rfl, by decide, rfl, by decide, ⟨rfl, trivial⟩, rfl, rfl, rfl, rfl, rfl⟩) rfl (gk_name (by decide)) (wpi_list (wpv 5)) (fun _ _ _ _ => (wpg_name (i := 0) (show (["_law_sign", "_law_signs"] : List Str).Nodup by decide +kernel) rfl (Or.inl rfl))) (fun _ _ _ _ => wpts_nil) (fun _ _ _ _ => (wpe_bmF_K (K := K) rfl PySem.F.plainAttrs_list PySem.F.slot_list_index PySem.F.type_list_index (mt_indexD_K (K := K) rfl (hu60 hr)) (wpv 1) (wpa_c (wpv 0) wpa_nil)))))))) (wpss_cons (wps_set (i := 6) sc_law.nd rfl (Or.inl rfl) (wpe_callTyF call_list_ofN rfl B.list PyProof.Rows.boot_list (wpa_c (wpv 2) wpa_nil))) (wpss_cons (wps_set (i := 7) sc_law.nd rfl (Or.inl rfl) (wpe_callF C_likeness hr_likeness rfl G_likeness.m G_likeness.F.kp G_likeness.b pass0 (wpa_c (wpv 1) (wpa_c (wpv 6) wpa_nil)))) (wpss_one (wps_ret (wpe_and (wpe_cmpR (op_eqD (hu60 hr)) (wpv 6) (wpv 2) (nomark _)) (wpe_and (wpe_callBF call_isD rfl B.isinstance PyProof.Rows.boot_isinstance (wpa_c (wpv 7) (wpa_c (wpe_bltn (v := .ty "list") rfl B.list PyProof.Rows.boot_list rfl) wpa_nil))) (wpe_one (wpe_cmpR (op_eqD (hu60 hr)) (wpv 7) (wpv 3) (nomark _))))))))))))), ?_⟩
    refine ⟨_, rfl, _, rfl, a, ns, 0, rfl, hS, by decide, by decide, fun ws0 v H1 S1 hok0 hv0 => ?_⟩
    obtain ⟨ws1, hok1, ews, h31⟩ := wk_of_law3 hok0
    rw [ews] at hv0
    refine ⟨a, ns, v, ws1, rfl, S1.seq hS, hv0, hok1, h31, fun ws r H2 S2 hv hok => ?_⟩
    have S02 := S1.trans S2
    have h8 := hok.n8
    have h1 := hok.n1
    obtain ⟨wa, wvs, rfl, hwa, hwl, hwsp⟩ := dat_wk hv
    have e0 : ((wvs.length : Nat) : Int).toNat = ws.length := by rw [hwl, Int.toNat_natCast]
    -- marks
    refine ⟨_, rfl, wa, _, rfl, .inr hwa, _, rfl, by omega, by omega, fun ma hma => ?_⟩
    refine comp_datR (K := K) (lo := 0) (k := ((wvs.length : Nat) : Int).toNat) (fun _ dd => ∃ c : Nat, dd = .int c) hma (by rw [e0]; exact Nat.le_of_lt (small1000 (by omega))) (by rintro j d ⟨c, rfl⟩; rfl) ?_ ?_
    · intro i H3 RR hi S3 kk
      refine ⟨_, rfl, _, rfl, _, _, rfl, rfl, (show (0 : Int) < 4 by decide), _, _, rfl, rfl, a, ns, _, 3, rfl, (S02.trans S3).seq hS, by omega, by omega, by decide, fun c H4 S4 c0 c3 => ?_⟩
      exact kk _ H4 _ S4 (.int _) ⟨c.toNat, by rw [Int.toNat_of_nonneg c0]⟩
    intro mvs H3 ds S3 hma3 hl3 hds hmvs
    rw [e0] at hl3
    obtain ⟨ms, rfl, eds⟩ := nats_of hmvs fun d hd => by
      obtain ⟨j, hj⟩ := List.mem_iff_getElem?.mp hd
      exact hds j d hj
    have hml : ms.length = ws.length := by rw [eds, List.length_map] at hl3; exact hl3
    -- kinds
    refine ⟨_, rfl, ma, _, rfl, .inl (SqL.of hma3), fun kl H4 _ S4 hkl4 => ?_⟩
    have S24 := S3.trans S4
    refine ⟨_, rfl, wa, _, rfl, .inr (S24.seqT hwa), _, rfl, by omega, by omega, ?_⟩
    refine for_range (lo := 0) (n := ((wvs.length : Nat) : Int).toNat) (fun t ρ H5 => ∃ (kl : Addr) (gs : List Nat) (gc : Nat → Nat → Nat) (o4 o5 : Option V), ρ = [some (.ref a), some (.ref wa), some (.ref ma), some (.ref kl), o4, o5, none, none] ∧ Same H3 H5 ∧ SqL K H5 kl (nl gs) ∧ gs.length = ws.length ∧ (∀ i, i < ws.length → gc 0 i = ms.getD i 0) ∧ Chn ws.length (pOf ws) gc t ∧ ∀ i, i < ws.length → gs.getD i 0 = gc t i)
      ⟨kl, ms, fun _ i => ms.getD i 0, none, none, rfl, S4, SqL.of hkl4, hml, fun _ _ => rfl, fun t ht => absurd ht (Nat.not_lt_zero _), fun _ _ => rfl⟩ ?_ ?_
    · rintro t ρ H5 ht ⟨kl, gs, gc, o4, o5, rfl, S5, hkl, hgl, g0, hch, hgt⟩
      have S25 := S3.trans S5
      -- signs
      refine ⟨_, rfl, wa, _, rfl, .inr (S25.seqT hwa), _, rfl, by omega, by omega, fun p hp => ?_⟩
      refine comp_range (lo := 0) (k := ((wvs.length : Nat) : Int).toNat) (tt := tYes) (fun i ys H6 => ∃ pf : Nat → List (Nat × Rat), SUp K H5 p (fun j => gs.getD j 0) (fun j => (pf j).map prD) i ys H6 ∧ ∀ j, j < i → Cn ws.length (ws.getD j []) (fun j => gs.getD j 0) (pf j)) ⟨fun _ => [], SUp.start hp, fun j hj => absurd hj (Nat.not_lt_zero _)⟩ (fun i ys H6 _ ⟨_, h, _⟩ => ⟨h.2.1, Nat.le_of_eq h.2.2.1⟩) (by rw [e0]; exact Nat.le_of_lt (small1000 (by omega))) ?_ ?_
      · rintro i ys H6 hi ⟨pf, h, hcn⟩
        rw [e0] at hi
        have S56 := h.1
        obtain ⟨x, hx, hxd⟩ := hwsp i hi
        have hxa : atI wvs (0 + (i : Int)) = some x := by rw [Int.zero_add]; exact atI_nat hx
        have hia : i < gs.length := by omega
        have hat : atI (nl gs) (0 + (i : Int)) = some (.int (gs.getD i 0 : Nat)) := by rw [Int.zero_add]; exact atI_nat (nl_at hia)
        have S26 := S25.trans S56
        dsimp only [gName, tYes]
        rw [if_pos rfl]
        refine ⟨_, rfl, _, rfl, kl, _, _, _, rfl, rfl, S56.seq hkl, hat, ?_⟩
        refine ⟨_, rfl, _, rfl, wa, _, _, _, rfl, rfl, S26.seqT hwa, hxa, _, rfl, x, _, ws.length, kl, gs, rfl, hxd.same S26, hok.sp _ (getD_mem hi), S56.seq hkl, hgl, fun r H7 zs prs r0 S7 hr7 hzs cn l6 => ?_⟩
        refine ⟨s2, fun T H8 _ S8 hT => ?_⟩
        have hrp : r ≠ p := fun z => by rw [z, h.2.1] at r0; cases r0
        have h' := h.congr (es' := fun j => (if j = i then prs else pf j).map prD) fun j hj => by simp only [if_neg (show j ≠ i by omega)]
        obtain ⟨m1, m2⟩ := h'.more hp (fun j _ => noL_pr _) (S7.trans S8) hT hrp (S8 _ _ hr7) (by simp only [if_true]; exact hzs.same S8)
        refine ⟨m1, _, m2, fun j hj => ?_⟩
        by_cases e : j = i
        · simp only [e, if_true]; exact cn
        · simp only [e, if_false]; exact hcn j (by omega)
      · rintro ys H6 ⟨pf, h, hcn⟩
        rw [e0] at h hcn
        have S56 := h.1
        have hl9 : (dl ws.length (sgD (fun j => gs.getD j 0) fun j => (pf j).map prD)).length = ws.length := dl_len _ _
        have hdats := h.dats
        have hyl := h.2.2.1
        have hdep : ∀ d ∈ dl ws.length (sgD (fun j => gs.getD j 0) fun j => (pf j).map prD), depD d ≤ 50 := fun d hd => by
          obtain ⟨j, _, rfl⟩ := List.mem_map.mp hd
          exact dep_sg (dep_pr _)
        -- kinds again
        refine ⟨_, rfl, p, rfl, ⟨_, SqL.of h.2.1⟩, fun p2 hp2 => ?_⟩
        refine comp_datL (K := K) (fun i dd => ∃ k : Nat, dd = .int k ∧ Lst ws.length (fun j i => eqD ((dl ws.length (sgD (fun j => gs.getD j 0) fun j => (pf j).map prD)).getD j .non) ((dl ws.length (sgD (fun j => gs.getD j 0) fun j => (pf j).map prD)).getD i .non) = true) i k) hp2 (SqL.of h.2.1) (by rw [hyl]; exact Nat.le_of_lt (small1000 (by omega))) (by rintro j d ⟨k, rfl, _⟩; rfl) ?_ ?_
        · intro i x H7 RR hx S7 kk
          obtain ⟨d, hd, hxd⟩ := hdats.get' hx
          obtain ⟨j, a1, a2, a3⟩ := first_at hd
          rw [hl9] at a3
          refine ⟨_, rfl, .inl ⟨rfl, _, SqL.of (S7 _ _ h.2.1)⟩, _, rfl, p, x, ys, _, d, j, rfl, rfl, SqL.of (S7 _ _ h.2.1), hdats.same S7, hxd.same S7, hdep, by omega, a1, a2, kk _ H7 _ (Same.refl _) (.int _) ⟨j, rfl, a3⟩⟩
        · intro zs H7 es S7 hp7 hl7 hes hdd
          obtain ⟨ks, rfl, ees⟩ := nats_of hdd fun d hd => by
            obtain ⟨j, hj⟩ := List.mem_iff_getElem?.mp hd
            obtain ⟨k, e, _⟩ := hes j d hj
            exact ⟨k, e⟩
          have hkl : ks.length = ws.length := by rw [ees, List.length_map] at hl7; rw [hl7, hyl]
          have hN : Nxt ws.length (pOf ws) (fun j => gs.getD j 0) (fun j => ks.getD j 0) := fun i hi => by
            have hik : i < ks.length := by omega
            obtain ⟨k, e, h3⟩ := hes i (.int (ks.getD i 0 : Nat)) (by rw [ees, List.getElem?_map, List.getElem?_eq_getElem hik, List.getD_eq_getElem?_getD, List.getElem?_eq_getElem hik]; rfl)
            have e : ((ks.getD i 0 : Nat) : Int) = (k : Int) := L2.D.int.inj e
            show Lst ws.length _ i (ks.getD i 0)
            rw [Int.ofNat.inj e]
            refine h3.of hi fun j hj => ?_
            rw [dl_getD hj, dl_getD hi, sgD_eq, eqDs_pr, (hcn j hj).eq_iff (hcn i hi)]
            exact Iff.rfl
          have hE : Eqv ws.length (fun j => gs.getD j 0) (gc t) := fun a b ha hb => by simp only [hgt a ha, hgt b hb]
          refine ⟨p2, ks, fun u => if u ≤ t then gc u else fun i => ks.getD i 0, _, _, rfl, (S5.trans S56).trans S7, SqL.of hp7, hkl, fun i hi => by simp only [Nat.zero_le, if_true]; exact g0 i hi, fun u hu => ?_, fun i hi => by simp only [show ¬ t + 1 ≤ t by omega, if_false]⟩
          by_cases e : u < t
          · simp only [show u ≤ t by omega, show u + 1 ≤ t by omega, if_true]
            exact hch u e
          · have eu : u = t := by omega
            subst eu
            simp only [Nat.le_refl, if_true, show ¬ u + 1 ≤ u by omega, if_false]
            intro i hi
            exact (hN i hi).of hi fun j hj => Sg.eqv hE hj hi
    · rintro ρ H5 ⟨kl, gs, gc, o4, o5, rfl, S5, hkl, hgl, g0, hch, hgt⟩
      rw [e0] at hch hgt
      refine ⟨_, rfl, ma, _, rfl, .inl (SqL.of (S5 _ _ hma3)), fun hd H6 _ S6 hhd => ?_⟩
      have S26 := (S3.trans S5).trans S6
      refine ⟨_, rfl, _, rfl, .ref wa, ws, hd, ms, rfl, hv.same S26, hok, SqL.of hhd, hml, fun fl H7 ks c k S7 hfl lk hk fx => ?_⟩
      have ek : ks = gs := List.ext_getElem (by rw [lk.len, hgl]) fun i a1 a2 => by
        have hi : i < ws.length := by rw [← hgl]; exact a2
        have := (lk_law lk hk fx h1 g0 hch i hi).trans (hgt i hi).symm
        rw [List.getD_eq_getElem?_getD, List.getElem?_eq_getElem a1, List.getD_eq_getElem?_getD, List.getElem?_eq_getElem a2] at this
        exact this
      have S57 := S6.trans S7
      refine ⟨_, rfl, _, rfl, _, _, .inr ⟨_, _, rfl, rfl⟩, datNl (SqL.of (S7 _ _ hhd)), datNl (SqL.of ((S5.trans S57) _ _ hma3)), depInts ms, _, rfl, ?_⟩
      rw [eqD_refl]
      refine iteT ⟨_, rfl, .ref fl, _, _, _, rfl, datNl hfl, kit_list _, _, rfl, iteT ?_⟩
      refine ⟨_, rfl, _, rfl, _, _, .inr ⟨_, _, rfl, rfl⟩, datNl hfl, datNl (S57.seq hkl), depInts ks, ?_⟩
      rw [ek, eqD_refl]
      exact q _
end
end Lw

namespace Lw
open PySem L2
end Lw
namespace Lw
open PySem L2
open PySem.W (nsIn codeIn keepIn mg_of)
abbrev Fn (n : Str) (st : Stmt) (v d p : Value) (a : Option Addr) (c t : Value) := PySem.W.fnOf n n (defArgs st) (defBody st) (defScope st) .none v d p a c t
theorem df_mk {K : PySem.W.Frag} {h : Heap} {mg : Str → Option Value} (X : K.In h) (G : h.Ns mainGlobals mg) {x : Str} {st : Stmt} {f : Addr} {oc : Value} {od an : Option Addr} {osl : Array (Option Value)} {v d p c t : Value} (ps : List Str)
    (a : nsIn K mainGlobals x = some (some (.ref f))) (l : K.lookup f = some ⟨oc, od, .func (Fn x st v d p an c t), osl⟩) (hc : codeIn K c x = true) (k : keepIn K (.ref f) = true)
    (b : ∀ (v d p : Value) (a : Option Addr) (c t : Value) (us : List Value), us.length = ps.length → bindArgs (Fn x st v d p a c t) ⟨us, []⟩ = pure (ps.zip us)) : Df K mg x st ps f (Fn x st v d p an c t) :=
  ⟨fun_mk l hc k, (fun_mk (st := st) l hc k).binds (ps := ps) b, mg_of X G a⟩
set_option autoImplicit true in
theorem all_mk {l : PySem.W.OpenLaw} {w : World} {K : PySem.W.Frag} {h : Heap} {mg : Str → Option Value} {fa : Addr} (X : K.In h) (G : h.Ns mainGlobals mg) (hfa : mg "law" = some (.ref fa))
    {a_NOUGHT : Addr} {dd_NOUGHT : Option Addr} {n_NOUGHT : Nat} {sl_NOUGHT : Array (Option Value)} {u_NOUGHT_0 u_NOUGHT_1 : Tok}
    {a_ONE : Addr} {dd_ONE : Option Addr} {n_ONE : Nat} {sl_ONE : Array (Option Value)} {u_ONE_0 u_ONE_1 : Tok}
    {t_MOST_ROOMS : Tok}
    (a0:nsIn K mainGlobals "is_whole"=some (some (.ref jf0))) (l0:K.lookup jf0=some ⟨jo0,jd0,.func (Fn "is_whole" s_is_whole jv0 je0 jp0 jn0 jc0 jt0),js0⟩) (h0:codeIn K jc0 "is_whole"=true) (k0:keepIn K (.ref jf0)=true)
    (a1:nsIn K mainGlobals "common_divisor"=some (some (.ref jf1))) (l1:K.lookup jf1=some ⟨jo1,jd1,.func (Fn "common_divisor" s_common_divisor jv1 je1 jp1 jn1 jc1 jt1),js1⟩) (h1:codeIn K jc1 "common_divisor"=true) (k1:keepIn K (.ref jf1)=true)
    (a2:nsIn K mainGlobals "is_fraction"=some (some (.ref jf2))) (l2:K.lookup jf2=some ⟨jo2,jd2,.func (Fn "is_fraction" s_is_fraction jv2 je2 jp2 jn2 jc2 jt2),js2⟩) (h2:codeIn K jc2 "is_fraction"=true) (k2:keepIn K (.ref jf2)=true)
    (a3:nsIn K mainGlobals "reduced"=some (some (.ref jf3))) (l3:K.lookup jf3=some ⟨jo3,jd3,.func (Fn "reduced" s_reduced jv3 je3 jp3 jn3 jc3 jt3),js3⟩) (h3:codeIn K jc3 "reduced"=true) (k3:keepIn K (.ref jf3)=true)
    (a4:nsIn K mainGlobals "plus"=some (some (.ref jf4))) (l4:K.lookup jf4=some ⟨jo4,jd4,.func (Fn "plus" s_plus jv4 je4 jp4 jn4 jc4 jt4),js4⟩) (h4:codeIn K jc4 "plus"=true) (k4:keepIn K (.ref jf4)=true)
    (a5:nsIn K mainGlobals "total"=some (some (.ref jf5))) (l5:K.lookup jf5=some ⟨jo5,jd5,.func (Fn "total" s_total jv5 je5 jp5 jn5 jc5 jt5),js5⟩) (h5:codeIn K jc5 "total"=true) (k5:keepIn K (.ref jf5)=true)
    (a6:nsIn K mainGlobals "is_room"=some (some (.ref jf6))) (l6:K.lookup jf6=some ⟨jo6,jd6,.func (Fn "is_room" s_is_room jv6 je6 jp6 jn6 jc6 jt6),js6⟩) (h6:codeIn K jc6 "is_room"=true) (k6:keepIn K (.ref jf6)=true)
    (a7:nsIn K mainGlobals "is_pair"=some (some (.ref jf7))) (l7:K.lookup jf7=some ⟨jo7,jd7,.func (Fn "is_pair" s_is_pair jv7 je7 jp7 jn7 jc7 jt7),js7⟩) (h7:codeIn K jc7 "is_pair"=true) (k7:keepIn K (.ref jf7)=true)
    (a8:nsIn K mainGlobals "is_spread"=some (some (.ref jf8))) (l8:K.lookup jf8=some ⟨jo8,jd8,.func (Fn "is_spread" s_is_spread jv8 je8 jp8 jn8 jc8 jt8),js8⟩) (h8:codeIn K jc8 "is_spread"=true) (k8:keepIn K (.ref jf8)=true)
    (a9:nsIn K mainGlobals "is_walk"=some (some (.ref jf9))) (l9:K.lookup jf9=some ⟨jo9,jd9,.func (Fn "is_walk" s_is_walk jv9 je9 jp9 jn9 jc9 jt9),js9⟩) (h9:codeIn K jc9 "is_walk"=true) (k9:keepIn K (.ref jf9)=true)
    (a10:nsIn K mainGlobals "checked"=some (some (.ref jf10))) (l10:K.lookup jf10=some ⟨jo10,jd10,.func (Fn "checked" s_checked jv10 je10 jp10 jn10 jc10 jt10),js10⟩) (h10:codeIn K jc10 "checked"=true) (k10:keepIn K (.ref jf10)=true)
    (a11:nsIn K mainGlobals "is_marks"=some (some (.ref jf11))) (l11:K.lookup jf11=some ⟨jo11,jd11,.func (Fn "is_marks" s_is_marks jv11 je11 jp11 jn11 jc11 jt11),js11⟩) (h11:codeIn K jc11 "is_marks"=true) (k11:keepIn K (.ref jf11)=true)
    (a12:nsIn K mainGlobals "checked_marks"=some (some (.ref jf12))) (l12:K.lookup jf12=some ⟨jo12,jd12,.func (Fn "checked_marks" s_checked_marks jv12 je12 jp12 jn12 jc12 jt12),js12⟩) (h12:codeIn K jc12 "checked_marks"=true) (k12:keepIn K (.ref jf12)=true)
    (a13:nsIn K mainGlobals "first_places"=some (some (.ref jf13))) (l13:K.lookup jf13=some ⟨jo13,jd13,.func (Fn "first_places" s_first_places jv13 je13 jp13 jn13 jc13 jt13),js13⟩) (h13:codeIn K jc13 "first_places"=true) (k13:keepIn K (.ref jf13)=true)
    (a14:nsIn K mainGlobals "share_into"=some (some (.ref jf14))) (l14:K.lookup jf14=some ⟨jo14,jd14,.func (Fn "share_into" s_share_into jv14 je14 jp14 jn14 jc14 jt14),js14⟩) (h14:codeIn K jc14 "share_into"=true) (k14:keepIn K (.ref jf14)=true)
    (a15:nsIn K mainGlobals "shares_into_all"=some (some (.ref jf15))) (l15:K.lookup jf15=some ⟨jo15,jd15,.func (Fn "shares_into_all" s_shares_into_all jv15 je15 jp15 jn15 jc15 jt15),js15⟩) (h15:codeIn K jc15 "shares_into_all"=true) (k15:keepIn K (.ref jf15)=true)
    (a16:nsIn K mainGlobals "likeness"=some (some (.ref jf16))) (l16:K.lookup jf16=some ⟨jo16,jd16,.func (Fn "likeness" s_likeness jv16 je16 jp16 jn16 jc16 jt16),js16⟩) (h16:codeIn K jc16 "likeness"=true) (k16:keepIn K (.ref jf16)=true)
    (a17:nsIn K mainGlobals "_law_cell_at"=some (some (.ref jf17))) (l17:K.lookup jf17=some ⟨jo17,jd17,.func (Fn "_law_cell_at" s_law_cell_at jv17 je17 jp17 jn17 jc17 jt17),js17⟩) (h17:codeIn K jc17 "_law_cell_at"=true) (k17:keepIn K (.ref jf17)=true)
    (a18:nsIn K mainGlobals "_law_mixed"=some (some (.ref jf18))) (l18:K.lookup jf18=some ⟨jo18,jd18,.func (Fn "_law_mixed" s_law_mixed jv18 je18 jp18 jn18 jc18 jt18),js18⟩) (h18:codeIn K jc18 "_law_mixed"=true) (k18:keepIn K (.ref jf18)=true)
    (a19:nsIn K mainGlobals "_law_divisor"=some (some (.ref jf19))) (l19:K.lookup jf19=some ⟨jo19,jd19,.func (Fn "_law_divisor" s_law_divisor jv19 je19 jp19 jn19 jc19 jt19),js19⟩) (h19:codeIn K jc19 "_law_divisor"=true) (k19:keepIn K (.ref jf19)=true)
    (a20:nsIn K mainGlobals "_law_frac"=some (some (.ref jf20))) (l20:K.lookup jf20=some ⟨jo20,jd20,.func (Fn "_law_frac" s_law_frac jv20 je20 jp20 jn20 jc20 jt20),js20⟩) (h20:codeIn K jc20 "_law_frac"=true) (k20:keepIn K (.ref jf20)=true)
    (a21:nsIn K mainGlobals "_law_spread"=some (some (.ref jf21))) (l21:K.lookup jf21=some ⟨jo21,jd21,.func (Fn "_law_spread" s_law_spread jv21 je21 jp21 jn21 jc21 jt21),js21⟩) (h21:codeIn K jc21 "_law_spread"=true) (k21:keepIn K (.ref jf21)=true)
    (a22:nsIn K mainGlobals "_law_walk"=some (some (.ref jf22))) (l22:K.lookup jf22=some ⟨jo22,jd22,.func (Fn "_law_walk" s_law_walk jv22 je22 jp22 jn22 jc22 jt22),js22⟩) (h22:codeIn K jc22 "_law_walk"=true) (k22:keepIn K (.ref jf22)=true)
    (a23:nsIn K mainGlobals "_law_add"=some (some (.ref jf23))) (l23:K.lookup jf23=some ⟨jo23,jd23,.func (Fn "_law_add" s_law_add jv23 je23 jp23 jn23 jc23 jt23),js23⟩) (h23:codeIn K jc23 "_law_add"=true) (k23:keepIn K (.ref jf23)=true)
    (a24:nsIn K mainGlobals "_law_doubled"=some (some (.ref jf24))) (l24:K.lookup jf24=some ⟨jo24,jd24,.func (Fn "_law_doubled" s_law_doubled jv24 je24 jp24 jn24 jc24 jt24),js24⟩) (h24:codeIn K jc24 "_law_doubled"=true) (k24:keepIn K (.ref jf24)=true)
    (a25:nsIn K mainGlobals "_law_shares"=some (some (.ref jf25))) (l25:K.lookup jf25=some ⟨jo25,jd25,.func (Fn "_law_shares" s_law_shares jv25 je25 jp25 jn25 jc25 jt25),js25⟩) (h25:codeIn K jc25 "_law_shares"=true) (k25:keepIn K (.ref jf25)=true)
    (a26:nsIn K mainGlobals "law"=some (some (.ref jf26))) (l26:K.lookup jf26=some ⟨jo26,jd26,.func (Fn "law" s_law jv26 je26 jp26 jn26 jc26 jt26),js26⟩) (h26:codeIn K jc26 "law"=true) (k26:keepIn K (.ref jf26)=true)
    (z_len : PySem.W.nsIn K mainGlobals "len" = some none)
    (z_abs : PySem.W.nsIn K mainGlobals "abs" = some none)
    (z_range : PySem.W.nsIn K mainGlobals "range" = some none)
    (z_sum : PySem.W.nsIn K mainGlobals "sum" = some none)
    (z_tuple : PySem.W.nsIn K mainGlobals "tuple" = some none)
    (z_list : PySem.W.nsIn K mainGlobals "list" = some none)
    (z_sorted : PySem.W.nsIn K mainGlobals "sorted" = some none)
    (z_isinstance : PySem.W.nsIn K mainGlobals "isinstance" = some none)
    (z_int : PySem.W.nsIn K mainGlobals "int" = some none)
    (z_bool : PySem.W.nsIn K mainGlobals "bool" = some none)
    (z_all : PySem.W.nsIn K mainGlobals "all" = some none)
    (z_enumerate : PySem.W.nsIn K mainGlobals "enumerate" = some none)
    (m_NOUGHT : PySem.W.nsIn K mainGlobals "NOUGHT" = some (some (.ref a_NOUGHT))) (o_NOUGHT : K.lookup a_NOUGHT = some ⟨.type "tuple", dd_NOUGHT, .seq #[.int 0 u_NOUGHT_0, .int 1 u_NOUGHT_1] n_NOUGHT, sl_NOUGHT⟩)
    (m_ONE : PySem.W.nsIn K mainGlobals "ONE" = some (some (.ref a_ONE))) (o_ONE : K.lookup a_ONE = some ⟨.type "tuple", dd_ONE, .seq #[.int 1 u_ONE_0, .int 1 u_ONE_1] n_ONE, sl_ONE⟩)
    (m_MOST_ROOMS : PySem.W.nsIn K mainGlobals "MOST_ROOMS" = some (some (.int 8 t_MOST_ROOMS)))
    : ∃ fd : FuncData, (∀ (s : Shared) (v : Value), BindsTo s fd ⟨[v], []⟩ [("_law_script", v)]) ∧ ∀ base : Heap, K.In base → base.Ns mainGlobals mg → FnOk l.prog w K mg base CX0 9 fa fd ["_law_script"] (spLaw K) := by
  have e := hfa.symm.trans (PySem.W.mg_of X G a26)
  cases e
  have D_is_whole:=df_mk X G p_is_whole a0 l0 h0 k0 fun _ _ _ _ _ _ us hl=>match us,hl with|[_],_=>rfl
  have D_common_divisor:=df_mk X G p_common_divisor a1 l1 h1 k1 fun _ _ _ _ _ _ us hl=>match us,hl with|[_,_],_=>rfl
  have D_is_fraction:=df_mk X G p_is_fraction a2 l2 h2 k2 fun _ _ _ _ _ _ us hl=>match us,hl with|[_],_=>rfl
  have D_reduced:=df_mk X G p_reduced a3 l3 h3 k3 fun _ _ _ _ _ _ us hl=>match us,hl with|[_,_],_=>rfl
  have D_plus:=df_mk X G p_plus a4 l4 h4 k4 fun _ _ _ _ _ _ us hl=>match us,hl with|[_,_],_=>rfl
  have D_total:=df_mk X G p_total a5 l5 h5 k5 fun _ _ _ _ _ _ us hl=>match us,hl with|[_],_=>rfl
  have D_is_room:=df_mk X G p_is_room a6 l6 h6 k6 fun _ _ _ _ _ _ us hl=>match us,hl with|[_,_],_=>rfl
  have D_is_pair:=df_mk X G p_is_pair a7 l7 h7 k7 fun _ _ _ _ _ _ us hl=>match us,hl with|[_,_],_=>rfl
  have D_is_spread:=df_mk X G p_is_spread a8 l8 h8 k8 fun _ _ _ _ _ _ us hl=>match us,hl with|[_,_],_=>rfl
  have D_is_walk:=df_mk X G p_is_walk a9 l9 h9 k9 fun _ _ _ _ _ _ us hl=>match us,hl with|[_],_=>rfl
  have D_checked:=df_mk X G p_checked a10 l10 h10 k10 fun _ _ _ _ _ _ us hl=>match us,hl with|[_],_=>rfl
  have D_is_marks:=df_mk X G p_is_marks a11 l11 h11 k11 fun _ _ _ _ _ _ us hl=>match us,hl with|[_,_],_=>rfl
  have D_checked_marks:=df_mk X G p_checked_marks a12 l12 h12 k12 fun _ _ _ _ _ _ us hl=>match us,hl with|[_,_],_=>rfl
  have D_first_places:=df_mk X G p_first_places a13 l13 h13 k13 fun _ _ _ _ _ _ us hl=>match us,hl with|[_],_=>rfl
  have D_share_into:=df_mk X G p_share_into a14 l14 h14 k14 fun _ _ _ _ _ _ us hl=>match us,hl with|[_,_,_],_=>rfl
  have D_shares_into_all:=df_mk X G p_shares_into_all a15 l15 h15 k15 fun _ _ _ _ _ _ us hl=>match us,hl with|[_,_],_=>rfl
  have D_likeness:=df_mk X G p_likeness a16 l16 h16 k16 fun _ _ _ _ _ _ us hl=>match us,hl with|[_,_],_=>rfl
  have D_law_cell_at:=df_mk X G p_law_cell_at a17 l17 h17 k17 fun _ _ _ _ _ _ us hl=>match us,hl with|[_,_],_=>rfl
  have D_law_mixed:=df_mk X G p_law_mixed a18 l18 h18 k18 fun _ _ _ _ _ _ us hl=>match us,hl with|[_,_,_],_=>rfl
  have D_law_divisor:=df_mk X G p_law_divisor a19 l19 h19 k19 fun _ _ _ _ _ _ us hl=>match us,hl with|[_,_],_=>rfl
  have D_law_frac:=df_mk X G p_law_frac a20 l20 h20 k20 fun _ _ _ _ _ _ us hl=>match us,hl with|[_,_],_=>rfl
  have D_law_spread:=df_mk X G p_law_spread a21 l21 h21 k21 fun _ _ _ _ _ _ us hl=>match us,hl with|[_,_,_],_=>rfl
  have D_law_walk:=df_mk X G p_law_walk a22 l22 h22 k22 fun _ _ _ _ _ _ us hl=>match us,hl with|[_,_],_=>rfl
  have D_law_add:=df_mk X G p_law_add a23 l23 h23 k23 fun _ _ _ _ _ _ us hl=>match us,hl with|[_,_,_],_=>rfl
  have D_law_doubled:=df_mk X G p_law_doubled a24 l24 h24 k24 fun _ _ _ _ _ _ us hl=>match us,hl with|[_,_],_=>rfl
  have D_law_shares:=df_mk X G p_law_shares a25 l25 h25 k25 fun _ _ _ _ _ _ us hl=>match us,hl with|[_,_],_=>rfl
  have D_law:=df_mk X G p_law a26 l26 h26 k26 fun _ _ _ _ _ _ us hl=>match us,hl with|[_],_=>rfl
  have nb_len := PySem.W.mg_none_of X G z_len
  have nb_abs := PySem.W.mg_none_of X G z_abs
  have nb_range := PySem.W.mg_none_of X G z_range
  have nb_sum := PySem.W.mg_none_of X G z_sum
  have nb_tuple := PySem.W.mg_none_of X G z_tuple
  have nb_list := PySem.W.mg_none_of X G z_list
  have nb_sorted := PySem.W.mg_none_of X G z_sorted
  have nb_isinstance := PySem.W.mg_none_of X G z_isinstance
  have nb_int := PySem.W.mg_none_of X G z_int
  have nb_bool := PySem.W.mg_none_of X G z_bool
  have nb_all := PySem.W.mg_none_of X G z_all
  have nb_enumerate := PySem.W.mg_none_of X G z_enumerate
  have B : Bn mg := ⟨nb_len, nb_abs, nb_range, nb_sum, nb_tuple, nb_list, nb_sorted, nb_isinstance, nb_int, nb_bool, nb_all⟩
  have Cm_NOUGHT := PySem.W.mg_of X G m_NOUGHT
  have Cs_NOUGHT : ∀ H : Hp, SqT K H a_NOUGHT [.int 0, .int 1] := fun H => .inr ⟨_, _, _, o_NOUGHT, rfl, rfl, (by show 2 ≤ sizeLine; decide), .cons ⟨_, rfl⟩ (.cons ⟨_, rfl⟩ (.nil))⟩
  have Cm_ONE := PySem.W.mg_of X G m_ONE
  have Cs_ONE : ∀ H : Hp, SqT K H a_ONE [.int 1, .int 1] := fun H => .inr ⟨_, _, _, o_ONE, rfl, rfl, (by show 2 ≤ sizeLine; decide), .cons ⟨_, rfl⟩ (.cons ⟨_, rfl⟩ (.nil))⟩
  have Cm_MOST_ROOMS := PySem.W.mg_of X G m_MOST_ROOMS
  refine ⟨(Fn "law" s_law jv26 je26 jp26 jn26 jc26 jt26), fun s v => .of_eq rfl, fun base _ _ => ?_⟩
  have Cst_ : Cst K mg a_NOUGHT a_ONE t_MOST_ROOMS := ⟨Cm_NOUGHT, Cs_NOUGHT, Cm_ONE, Cs_ONE, Cm_MOST_ROOMS⟩
  have Rv := ok_is_roomV (P := l.prog) (w := w) (base := base) B D_is_room D_is_whole
  have Fv := ok_is_fractionV (P := l.prog) (w := w) (base := base) B D_is_fraction D_is_whole D_common_divisor
  have Tt := ok_totalR Cst_ (ok_plusR (P := l.prog) (w := w) (base := base) B D_plus D_reduced D_common_divisor) D_total D_plus
  have Sv := ok_is_spreadV B Cst_ (ok_is_pairV B Rv Fv D_is_pair D_is_room D_is_fraction) Tt D_is_spread D_is_pair D_total
  have Ck := ok_checkedV (ok_is_walkV B Cst_ Sv D_is_walk D_is_spread) D_checked D_is_walk
  have Cm := ok_checked_marks (ok_is_marks B (ok_is_whole (P := l.prog) (w := w) (base := base) B D_is_whole) D_is_marks D_is_whole) D_checked_marks D_is_marks
  have Fp := ok_first_places (P := l.prog) (w := w) (base := base) D_first_places
  have Sa := ok_shares_into_all B (ok_share_into Tt D_share_into D_total) D_shares_into_all D_share_into
  have Li := ok_likeness B Ck Cm Fp Sa D_likeness D_checked D_checked_marks D_first_places D_shares_into_all
  have Ad := ok_law_addR (P := l.prog) (w := w) (base := base) B D_law_add D_law_frac D_law_divisor
  have Mx := ok_law_mixed (P := l.prog) (w := w) (base := base) B D_law_mixed D_law_cell_at
  have Db := ok_law_doubled B nb_enumerate Mx D_law_doubled D_law_mixed
  exact ok_law B (ok_law_walk B D_law_walk D_law_spread D_law_cell_at D_law_mixed D_law_divisor D_law_frac) Db Mx (ok_law_shares B Ad D_law_shares D_law_add) Li
    D_law D_law_walk D_law_doubled D_law_mixed D_law_shares D_likeness
theorem walk {l : PySem.W.OpenLaw} {q : Program} {loose : List Str} {XP : (Str → Option Value) → Heap → Prop} {YP : World → Heap → Prop} {d : DefRec} {K : Params → PySem.W.Frag} (hn : l.most = some 63) (hdf : d.params.defaults = [])
    (hY : ∀ (w : World) (h : Heap), YP w h → (K w.params).In h)
    (F : ∀ (w : World) (mg : Str → Option Value) (fa : Addr) (h : Heap), (K w.params).In h → h.Ns mainGlobals mg → mg d.name = some (.ref fa) →
      ∃ fd : FuncData, (∀ (s : Shared) (u : Value), BindsTo s fd ⟨[u], []⟩ [("_law_script", u)]) ∧ ∀ base : Heap, (K w.params).In base → base.Ns mainGlobals mg → FnOk l.prog w (K w.params) mg base CX0 9 fa fd ["_law_script"] (spLaw (K w.params))) :
    PySem.W.WalkO q loose XP YP l.row.toRowW d [] (fun f vs => PySem.call f vs) :=
  L2.walk_of (n := 63) (k := 9) (x := "_law_script") (CX := fun _ => CX0) (sp := fun w => spLaw (K w.params)) hn (by decide) hdf ⟨rfl, by decide, by decide⟩ hY F (fun _ _ a ns hl _ hS => ⟨a, ns, rfl, hS, fun _ => rfl⟩) fun _ _ _ _ _ z => z
end Lw
open PySem PySem.W PyProof.Rows
set_option maxRecDepth 100000 in
set_option maxHeartbeats 0 in
theorem PySem.Challenge.cw_lotwander_k09_whole_like_holds : PySem.Challenge.rw_lotwander_k09_whole_like.Holds := by
  w_on; o_law; k_head; (case hw => w_witness2)
  k_fill
  refine Lw.walk (l := PySem.Challenge.rw_lotwander_k09_whole_like) rfl rfl (fun w h Y => PySem.W.kIn_of Y) ?F
  case F =>
    intro w mg fa h KX G hmg
    refine' Lw.all_mk KX G hmg ?a0 ?l0 ?h0 ?k0 ?a1 ?l1 ?h1 ?k1 ?a2 ?l2 ?h2 ?k2 ?a3 ?l3 ?h3 ?k3 ?a4 ?l4 ?h4 ?k4 ?a5 ?l5 ?h5 ?k5 ?a6 ?l6 ?h6 ?k6 ?a7 ?l7 ?h7 ?k7 ?a8 ?l8 ?h8 ?k8 ?a9 ?l9 ?h9 ?k9 ?a10 ?l10 ?h10 ?k10 ?a11 ?l11 ?h11 ?k11 ?a12 ?l12 ?h12 ?k12 ?a13 ?l13 ?h13 ?k13 ?a14 ?l14 ?h14 ?k14 ?a15 ?l15 ?h15 ?k15 ?a16 ?l16 ?h16 ?k16 ?a17 ?l17 ?h17 ?k17 ?a18 ?l18 ?h18 ?k18 ?a19 ?l19 ?h19 ?k19 ?a20 ?l20 ?h20 ?k20 ?a21 ?l21 ?h21 ?k21 ?a22 ?l22 ?h22 ?k22 ?a23 ?l23 ?h23 ?k23 ?a24 ?l24 ?h24 ?k24 ?a25 ?l25 ?h25 ?k25 ?a26 ?l26 ?h26 ?k26 ?z_len ?z_abs ?z_range ?z_sum ?z_tuple ?z_list ?z_sorted ?z_isinstance ?z_int ?z_bool ?z_all ?z_enumerate ?m_NOUGHT ?o_NOUGHT ?m_ONE ?o_ONE ?m_MOST_ROOMS
    case a0|l0|h0|k0|a1|l1|h1|k1|a2|l2|h2|k2|a3|l3|h3|k3|a4|l4|h4|k4|a5|l5|h5|k5|a6|l6|h6|k6|a7|l7|h7|k7|a8|l8|h8|k8|a9|l9|h9|k9|a10|l10|h10|k10|a11|l11|h11|k11|a12|l12|h12|k12|a13|l13|h13|k13|a14|l14|h14|k14|a15|l15|h15|k15|a16|l16|h16|k16|a17|l17|h17|k17|a18|l18|h18|k18|a19|l19|h19|k19|a20|l20|h20|k20|a21|l21|h21|k21|a22|l22|h22|k22|a23|l23|h23|k23|a24|l24|h24|k24|a25|l25|h25|k25|a26|l26|h26|k26|z_len|z_abs|z_range|z_sum|z_tuple|z_list|z_sorted|z_isinstance|z_int|z_bool|z_all|z_enumerate|m_NOUGHT|o_NOUGHT|m_ONE|o_ONE|m_MOST_ROOMS=>k_is
#print axioms PySem.Challenge.cw_lotwander_k09_whole_like_holds
